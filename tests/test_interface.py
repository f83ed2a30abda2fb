"""The interface: names, parameters, constants, and where each one is defined."""

import inspect
import unittest

import carryturns.above.lifts as lifts
import carryturns.above.towers as towers
import carryturns.base.numbers as numbers
import carryturns.base.residues as residues
import carryturns.carry.carries as carries
import carryturns.character.characters as characters
import carryturns.count.equations as equations
import carryturns.design.designs as designs
import carryturns.field.fields as fields
import carryturns.ideal.ideals as ideals
import carryturns.mutual.squares as squares
import carryturns.mutual.symbols as symbols
import carryturns.period.periods as periods
import carryturns.place.places as places
import carryturns.table.tables as tables
import carryturns.total.totals as totals
import carryturns.turn.turns as turns
import carryturns.use.bench as bench
import carryturns.wave.waves as waves

CONSTANTS = (
    (numbers, {"MAX_NAME": 8, "MAX_FACTORED": 10 ** 9, "MAX_MODULUS": 10000, "MAX_BASE": 1000}),
    (residues, {"MAX_RESIDUE_PRIME": 1000, "MAX_DEGREE": 60, "MAX_SEARCHED": 10 ** 6}),
    (fields, {"MAX_SIZE": 512, "MAX_CLASSES": 24}),
    (turns, {"MAX_ORDER": 60, "MAX_POWER": 60}),
    (characters, {"MAX_ORDER": 24}),
    (tables, {"MAX_JUDGED": 24}),
    (totals, {"MAX_TERMS": 6}),
    (periods, {"MAX_RAISED": 20}),
    (equations, {"MAX_TERMS": 6, "MAX_TRIED": 20000, "MAX_SHARES": 20000, "MAX_EXPONENT": 1000}),
    (towers, {"MAX_TOWER": 4096, "MAX_FOLD": 12}),
    (waves, {"MAX_WAVE": 19, "MAX_WAVE_ORDER": 12, "MAX_WAVE_POWER": 24}),
    (places, {"MAX_PLACED": 12}),
    (ideals, {"MAX_RANK": 8, "MAX_PARTED": 10 ** 12}),
    (symbols, {"MUTUAL_ORDERS": (3, 4, 5, 7), "MAX_PARTED": 10 ** 12}),
    (squares, {"MAX_SQUARED": 10 ** 6}),
    (designs, {"MAX_UNITED": 8}),
    (bench, {"MAX_TURNS": 6, "MAX_EQUATIONS": 6, "MAX_PLEDGES": 10}),
)

FUNCTIONS = (
    (numbers, """
        is_integer(value) is_name(value) is_prime(value) common_divisor(numbers) divisors(number)
        prime_powers(number) count_units(modulus) units_of(modulus) order_modulo(number,modulus)
        digits_of(number,base) digit_sum(number,base) binomial_rest(prime,top,low)
    """),
    (residues, """
        is_residue_row(prime,value) row_plus(prime,one,other) row_minus(prime,one,other)
        row_times(prime,one,other) row_divided(prime,one,other) row_common(prime,one,other)
        row_power(prime,row,many,modulus) row_value(prime,row,residue) row_code(prime,row)
        row_of_code(prime,code) is_irreducible_row(prime,row) least_irreducible(prime,degree)
        row_factors(prime,row) count_irreducible(prime,degree) row_roots(prime,row)
    """),
    (fields, "is_field_size(value) opposite_class(field,order)"),
    (turns, "cyclotomic(order)"),
    (characters, """
        characters(field,order) total_of(character) count_roots(field,exponent,element)
        class_sums(order,values) class_values(order,sums)
    """),
    (tables, """
        class_table(field,order) orbits(field,order) turned_table(table,unit) lesser_table(table,order)
        is_table_of(field,order,value) turning_unit(field,order,value) sums_hold(field,order,table)
        rules_hold(field,order,table) pairs_adding(field,order,one,other)
    """),
    (totals, """
        jacobi(field,order,indices) is_jacobi(field,order,indices,value) jacobi_split(field,order,indices)
        split_value(field,order,split) all_totals(field,order) totals_by_table(field,order,table)
        table_by_totals(field,order,totals) are_totals(field,order,value)
    """),
    (periods, """
        is_period_table(field,order,value) discriminant(poly) parts_modulo(ring,prime) degree_told(ring,prime)
    """),
    (equations, """
        solutions(equation) count_plainly(equation) count_by_classes(equation) count_by_sums(equation)
        shares_of(equation) amount_of(equation,share) counts_by_goal(field,terms) reach_of(field,number)
        least_number(field,number) power_sums(field,number,many)
    """),
    (lifts, """
        jacobi_above(field,order,indices,many) count_above(equation,many) count_plainly_above(equation,many)
        count_polynomial(equation) count_parts(equation) counts_by_polynomial(size,terms,poly,many)
    """),
    (waves, """
        gauss(field,order,index) gauss_at(field,order,index,element) gauss_product(field,order,indices)
        jacobi_by_gauss(field,order,indices) product_sides(field,order,index,part)
        gauss_above(field,order,index,many) gauss_power(field,order,index)
    """),
    (carries, """
        carries_of(field,one,other) count_carries(field,one,other) rest_of(field,order,a,unit)
        carry_row(field,order,a,b) least_carries(field,order,a,b) left_at_generator(field,turn)
        binomial_left(field,order,a,b) prime_power_in(field,turn)
    """),
    (places, """
        places(order,prime) count_places(order,prime) place_of_field(field,order) left_element(field,turn)
        turning_to(place,other)
    """),
    (ideals, """
        whole_ideal(order) ideal_of(order,members) ideal_of_place(place) places_in(ideal) is_maker(ideal,value)
        jacobi_ideal(field,order,one,other) is_only_total(field,order,one,other,value)
    """),
    (symbols, "is_odd(turn) is_near_one(turn) near_power(turn) symbol_over(one,other) differ_by(one,other)"),
    (squares, """
        two_squares(prime) cube_squares(prime) squares_with(prime,factor,*,times=1) pair_by_total(prime,order)
        is_power_of(prime,number,order)
    """),
    (designs, """
        gap_counts(field,members) is_difference_set(field,members) union_of(field,order,numbers,*,zero=False)
        union_gaps(field,order,numbers,*,zero=False) difference_unions(field,order,*,zero=False)
        word_of(field,order,element) weight_of(field,order,element) word_dimension(field,order)
        weights_by_class(field,order) weight_counts(field,order)
    """),
    (bench, "is_pledge(value)"),
)

SEVEN = fields.Field(7)

# Each class with its file, an object, its methods with their parameters, its class methods, what it has for the
# signs of Python, and its properties.
CLASSES = (
    (fields.Field, fields, SEVEN, """
        __init__(self,prime,degree=1) plus(self,one,other) minus(self,one,other) times(self,one,other)
        over(self,one,other) opposite(self,element) raised(self,element,many) log_of(self,element)
        power_of(self,many) trace_of(self,element) norm_of(self,element) class_of(self,element,order)
        elements_of(self,order,number) lesser(self,degree)
     """, "", "__contains__ __len__ __iter__ __eq__ __str__", "prime degree size generator poly orders"),
    (turns.Turn, turns, turns.Turn(3, (1, 2)), """
        __init__(self,order,entries) plus(self,other) minus(self,other) times(self,other) scaled(self,number)
        opposite(self) raised(self,many) turned(self,unit) mirrored(self) norm(self) trace(self) is_unit(self)
        divided(self,other) content(self,prime) lifted(self,order) lowered(self,order)
     """, "power(order,many) whole(order,integer) read(text)", "__eq__ __str__", "order entries is_zero"),
    (characters.Character, characters, characters.Character(SEVEN, 3, 1), """
        __init__(self,field,order,index) value_at(self,element) times(self,other) raised(self,many)
        opposite(self) widened(self,order)
     """, "", "__eq__ __str__", "field order number exact is_trivial sign"),
    (periods.PeriodRing, periods, periods.PeriodRing(SEVEN, 3), """
        __init__(self,field,order) single(self,index) plus(self,one,other) times(self,one,other)
        scaled(self,period,number) moved(self,period,number) raised(self,period,many) matrix_of(self,period)
        poly_of(self,period) trace_of(self,period)
     """, "", "__len__ __eq__ __str__", "field order one table poly"),
    (equations.Equation, equations, equations.Equation(SEVEN, ((1, 3),), 1), """
        __init__(self,field,terms,goal) left_at(self,value) is_solution(self,value) with_goal(self,element)
        scaled(self,element)
     """, "", "__eq__ __len__ __str__", "field terms goal exponents order"),
    (towers.Tower, towers, towers.Tower(SEVEN, 2), """
        __init__(self,field,many) plus(self,one,other) times(self,one,other) raised(self,one,number)
        norm_of(self,one) trace_of(self,one) embedded(self,code) members(self)
     """, "", "__eq__ __len__ __str__", "field fold size poly"),
    (waves.Wave, waves, waves.gauss(SEVEN, 3, 1), """
        __init__(self,order,prime,entries) plus(self,other) minus(self,other) times(self,other)
        scaled(self,factor) opposite(self) raised(self,many) moved(self,number) turned(self,unit) mirrored(self)
        as_turn(self)
     """, "", "__eq__ __str__", "order prime entries is_turn"),
    (places.Place, places, places.Place(3, 7, (3, 1)), """
        __init__(self,order,prime,poly) leaves(self,turn) symbol(self,turn) times_of(self,turn)
        turned_by(self,unit)
     """, "", "__contains__ __eq__ __str__", "order prime poly degree size"),
    (ideals.Ideal, ideals, ideals.Ideal(3, ((1, 3), (0, 7))), """
        __init__(self,order,rows) multiplied(self,other) joined(self,other) shared(self,other)
        parted(self,other) is_within(self,other) lifted_by(self,many) moved(self,unit)
     """, "", "__contains__ __len__ __iter__ __eq__ __str__", "order rows size"),
    (bench.Bench, bench, bench.Bench(SEVEN), """
        __init__(self,field) put(self,name,turn) load(self,name,equation) blend(self,name,one,other)
        weave(self,name,one,other) spin(self,name,unit) aim(self,name,element) drop(self,name) rename(self,names)
        demand(self,pledge) waive(self,pledge) undo(self,*,many=1) redo(self,*,many=1) trial(self)
        during(self,call) twin(self) turn_named(self,name) equation_named(self,name)
     """, "", "__contains__ __len__ __iter__ __eq__ __str__", "field names lines pledges changes"),
)


def signature_of(name, function):
    """The name and the parameters of a function, without blanks."""
    return name + str(inspect.signature(function)).replace(" ", "")


class Interface(unittest.TestCase):
    def test_constants(self):
        for module, told in CONSTANTS:
            for name, value in told.items():
                self.assertEqual(repr(getattr(module, name)), repr(value), name)

    def test_functions_stand_in_their_files(self):
        for module, told in FUNCTIONS:
            for signature in told.split():
                name = signature.split("(")[0]
                function = vars(module)[name]
                self.assertTrue(inspect.isfunction(function), name)
                self.assertIs(inspect.isgeneratorfunction(function), name == "solutions")
                self.assertEqual(function.__module__, module.__name__, name)
                self.assertEqual(signature_of(name, function), signature)

    def test_methods_stand_in_their_classes(self):
        for kind, module, _, methods, class_methods, signs, properties in CLASSES:
            self.assertEqual(kind.__module__, module.__name__)
            self.assertIs(vars(module)[kind.__name__], kind)
            for signature in methods.split():
                name = signature.split("(")[0]
                self.assertEqual(signature_of(name, vars(kind)[name]), signature)
            for signature in class_methods.split():
                name = signature.split("(")[0]
                self.assertIsInstance(vars(kind)[name], classmethod)
                self.assertEqual(signature_of(name, getattr(kind, name)), signature)
            for name in signs.split():
                self.assertIn(name, vars(kind))
            for name in properties.split():
                self.assertIsInstance(vars(kind)[name], property)

    def test_properties_are_set_from_the_start_and_stay(self):
        for kind, _, told, _, _, _, properties in CLASSES:
            for name in properties.split():
                value = getattr(told, name)
                with self.assertRaises(AttributeError):
                    setattr(told, name, value)
                self.assertEqual(getattr(told, name), value)
        for name in "prime degree size generator poly orders".split():
            self.assertTrue(hasattr(fields.Field(2), name))

    def test_what_is_iterated_over(self):
        for kind, _, told, _, _, signs, _ in CLASSES:
            if "__iter__" not in signs:
                self.assertRaises(TypeError, iter, told)
            if "__len__" not in signs:
                self.assertRaises(TypeError, len, told)


if __name__ == "__main__":
    unittest.main()
