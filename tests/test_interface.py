"""The interface: names, parameters, constants, and where each one is defined."""

import inspect
import unittest

import carryturns.base.numbers as numbers
import carryturns.base.residues as residues
import carryturns.field.fields as fields

CONSTANTS = (
    (numbers, {"MAX_NAME": 8, "MAX_FACTORED": 10 ** 9, "MAX_MODULUS": 10000, "MAX_BASE": 1000}),
    (residues, {"MAX_RESIDUE_PRIME": 1000, "MAX_DEGREE": 60, "MAX_SEARCHED": 10 ** 6}),
    (fields, {"MAX_SIZE": 512, "MAX_CLASSES": 24}),
)

FUNCTIONS = (
    (numbers, """
        is_integer(value) is_name(value) is_prime(value) common_divisor(numbers) divisors(number)
        prime_powers(number) count_units(modulus) units_of(modulus) order_modulo(number,modulus)
        digits_of(number,base) digit_sum(number,base) binomial_rest(prime,top,low)
    """),
    (residues, """
        is_residue_row(prime,value) row_plus(prime,one,other) row_minus(prime,one,other)
        row_times(prime,one,other) row_divided(prime,one,other) row_common(prime,one,other)
        row_power(prime,row,many,modulus) row_value(prime,row,residue) row_code(prime,row)
        row_of_code(prime,code) is_irreducible_row(prime,row) least_irreducible(prime,degree)
        row_factors(prime,row) count_irreducible(prime,degree) row_roots(prime,row)
    """),
    (fields, "is_field_size(value) opposite_class(field,order)"),
)

METHODS = """
    __init__(self,prime,degree=1) plus(self,one,other) minus(self,one,other) times(self,one,other)
    over(self,one,other) opposite(self,element) raised(self,element,many) log_of(self,element)
    power_of(self,many) trace_of(self,element) norm_of(self,element) class_of(self,element,order)
    elements_of(self,order,number) lesser(self,degree)
"""

SIGNED = ("__contains__", "__len__", "__iter__", "__eq__", "__str__")

PROPERTIES = ("prime", "degree", "size", "generator", "poly", "orders")


def signature_of(name, function):
    """The name and the parameters of a function, without blanks."""
    return name + str(inspect.signature(function)).replace(" ", "")


class Interface(unittest.TestCase):
    def test_constants(self):
        for module, told in CONSTANTS:
            for name, value in told.items():
                self.assertEqual(repr(getattr(module, name)), repr(value), name)

    def test_functions_stand_in_their_files(self):
        for module, told in FUNCTIONS:
            for signature in told.split():
                name = signature.split("(")[0]
                function = vars(module)[name]
                self.assertTrue(inspect.isfunction(function), name)
                self.assertEqual(function.__module__, module.__name__, name)
                self.assertEqual(signature_of(name, function), signature)

    def test_methods_stand_in_the_class(self):
        self.assertEqual(fields.Field.__module__, "carryturns.field.fields")
        for signature in METHODS.split():
            name = signature.split("(")[0]
            self.assertEqual(signature_of(name, vars(fields.Field)[name]), signature)
        for name in SIGNED + PROPERTIES:
            self.assertIn(name, vars(fields.Field))

    def test_properties_are_set_from_the_start(self):
        for name in PROPERTIES:
            self.assertTrue(hasattr(fields.Field(2), name))


if __name__ == "__main__":
    unittest.main()
