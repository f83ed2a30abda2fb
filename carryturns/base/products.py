"""Products of polynomials with integers, told by their entries, that of the power 0 first. Nothing is checked here."""

# Above so many products of entries it pays to pack polynomials into integers, if their entries are short.
MAX_PLAIN = 250
MAX_BITS = 400


def multiply_entries(one, other):
    """The list of the entries of the product of two polynomials, each told by one entry or more."""
    if (len(one) - one.count(0)) * len(other) > MAX_PLAIN:
        most = max([abs(entry) for entry in one]) * max([abs(entry) for entry in other]) * len(one)
        if most.bit_length() <= MAX_BITS:
            return multiply_packed(one, other, most)
    width = len(other)
    sums = [0] * (len(one) + width - 1)
    for at, factor in enumerate(one):
        if factor != 0:
            end = at + width
            sums[at:end] = [total + factor * entry for total, entry in zip(sums[at:end], other)]
    return sums


def multiply_packed(one, other, most):
    """The same, by one product of two integers; no entry of it is above the most, or below its opposite."""
    digits = digits_above(most)
    product = packed(one, digits) * packed(other, digits)
    return unpacked(product, len(one) + len(other) - 1, digits)


def digits_above(most):
    """How many digits to the base 16 tell more than twice an integer of at least 0."""
    return most.bit_length() // 4 + 2


def packed(entries, digits):
    """The value of a polynomial at 16 to the power of a number of digits."""
    total = 0
    for entry in reversed(entries):
        total = (total << (4 * digits)) + entry
    return total


def unpacked(total, many, digits):
    """The list of the entries of a polynomial, so many, told by its value; none of them has too many digits."""
    bits = 4 * digits
    half = 1 << (bits - 1)
    # With half of the power added to each entry, none is below 0, and each one has its own digits.
    value = total + half * (((1 << (bits * many)) - 1) // ((1 << bits) - 1))
    text = f"{value:x}".zfill(many * digits)
    return [int(text[at:at + digits], 16) - half for at in range((many - 1) * digits, -1, -digits)]
