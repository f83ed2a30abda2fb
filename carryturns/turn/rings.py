"""The entries of turn numbers of one order, reckoned with; nothing is checked here."""

from carryturns.base.numbers import prime_powers, units_of
from carryturns.base.products import multiply_entries
from carryturns.turn.polys import LOWER_TERMS, WIDTHS


def width_of(order):
    """The number of the entries of a turn number, which is that of the units modulo the order."""
    return WIDTHS[order]


def cyclotomic_entries(order):
    """The tuple of the entries of a cyclotomic polynomial, that of the power 0 first."""
    entries = [0] * WIDTHS[order] + [1]
    for at, entry in LOWER_TERMS[order]:
        entries[at] = entry
    return tuple(entries)


class TurnRing:
    """What the turn numbers of an order have in common."""

    def __init__(self, order):
        is_even = order % 2 == 0
        self._order = order
        self._width = WIDTHS[order]
        self._lower = LOWER_TERMS[order]
        # For even orders, z to the power of half the order is -1.
        self._period = order // 2 if is_even else order
        self._sign = -1 if is_even else 1

    def reduced(self, sums):
        """The entries of a sum of powers of z, told by a list of how often each power is there.

        The list has an item for each power that an entry belongs to, and perhaps more.
        """
        rest = self._folded(sums)
        length = len(rest)
        width = self._width
        for at in reversed(range(width, length)):
            last = rest[at]
            if last != 0:
                for to, entry in self._lower:
                    rest[at - width + to] = rest[at - width + to] - last * entry
        return tuple(rest[:width])

    def _folded(self, sums):
        # The list of as many items as there are powers of z without a sign.
        period = self._period
        rest = list(sums[:period])
        sign = self._sign
        for start in range(period, len(sums), period):
            part = sums[start:start + period]
            rest[:len(part)] = [many + sign * more for many, more in zip(rest, part)]
            sign = sign * self._sign
        return rest

    def root(self, many):
        """The entries of z to the power many."""
        sums = [0] * self._order
        sums[many % self._order] = 1
        return self.reduced(sums)

    def whole_entries(self, number):
        """The entries of an integer."""
        return (number,) + (0,) * (self._width - 1)

    def product(self, one, other):
        """The entries of a product."""
        return self.reduced(multiply_entries(one, other))

    def powered(self, entries, exponent):
        """The entries of a power, by squaring."""
        power = None
        while exponent > 0:
            if exponent % 2 == 1:
                power = entries if power is None else self.product(power, entries)
            exponent = exponent // 2
            if exponent > 0:
                entries = self.product(entries, entries)
        return self.whole_entries(1) if power is None else power

    def rolled(self, entries, exponent):
        """The entries of the product with a power of z, with an exponent of at least 0."""
        return self.reduced([0] * (exponent % self._order) + list(entries))

    def turned_by(self, entries, unit):
        """The entries with z ** unit in the place of z."""
        sums = [0] * self._order
        for at, entry in enumerate(entries):
            sums[at * unit % self._order] = entry
        return self.reduced(sums)

    def traced(self, entries):
        """The entries of the sum, turned by all units."""
        sums = [0] * self._order
        for unit in units_of(self._order):
            for at, entry in enumerate(entries):
                sums[at * unit % self._order] += entry
        return self.reduced(sums)

    def chained(self, entries, powers):
        """The entries of the product, turned by all powers of a unit, which begin with 1."""
        many = len(powers)
        if many == 1:
            return entries
        half = many // 2
        chain = self.chained(entries, powers[:half])
        chain = self.product(chain, self.turned_by(chain, powers[half]))
        if many % 2 == 1:
            chain = self.product(chain, self.turned_by(entries, powers[-1]))
        return chain

    def cofactor_and_norm(self, entries):
        """The pair of the entries of the product, turned by all units but 1, and of the norm."""
        group = [1 % self._order]
        others = self.whole_entries(1)
        whole = entries
        for unit in units_of(self._order):
            if unit not in group:
                # The units so far are a group, and so they are with the powers of the next one.
                powers = self._powers_outside(unit, group)
                more = self.turned_by(self.chained(whole, powers[:-1]), unit)
                others = self.product(others, more)
                whole = self.product(whole, more)
                group = [member * power % self._order for member in group for power in powers]
        return others, whole[0]

    def _powers_outside(self, unit, group):
        powers = [1]
        while powers[-1] * unit % self._order not in group:
            powers.append(powers[-1] * unit % self._order)
        return powers


def lifted_entries(order, entries, multiple):
    """The entries of a turn number of an order as one of a multiple of the order."""
    sums = [0] * multiple
    for at, entry in enumerate(entries):
        sums[at * (multiple // order)] = entry
    return TurnRing(multiple).reduced(sums)


def without_prime(order, entries, prime):
    """The entries as those of the order without one of its primes, or None if they are none."""
    part = order // prime
    if part % prime == 0:
        # Here the polynomial of the order is that of the part, with X ** prime in the place of X.
        if any([entry != 0 for at, entry in enumerate(entries) if at % prime != 0]):
            return None
        return entries[::prime]
    # Each root is one of the order prime, times one of the order part. Multiples of the roots of the
    # order prime add up to 0 only if all of them are equal, so all rows but the first one must be.
    padded = entries + (0,) * (order - len(entries))
    ring = TurnRing(part)
    rows = []
    for at in range(prime):
        rows.append(ring.reduced([padded[(at * part + to * prime) % order] for to in range(part)]))
    if any([row != rows[1] for row in rows[2:]]):
        return None
    return tuple([first - less for first, less in zip(rows[0], rows[1])])


def lowered_entries(order, entries, divisor):
    """The entries as those of a divisor of the order, or None if they are none."""
    for prime, many in prime_powers(order // divisor).items():
        for _ in range(many):
            if entries is not None:
                entries = without_prime(order, entries, prime)
                order = order // prime
    return entries
