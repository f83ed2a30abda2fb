"""What all elements of a field have, one behind the other: sums, products and traces. Nothing is checked here."""

from carryturns.base.numbers import first_powers


def sums_with(field, element):
    """The list of the sums of all elements, ascending, and of one element."""
    prime = field.prime
    sums = [0]
    for place in first_powers(prime, field.degree - 1):
        # Elements are added digit by digit, without carries.
        digit = element // place % prime
        sums = [(digit + other) % prime * place + low for other in range(prime) for low in sums]
    return sums


def products_with(field, element):
    """The list of the products of all elements, ascending, and of one element."""
    products = [0] * field.size
    if element != 0:
        powers = field.all_powers()
        log = field.log_of(element)
        for other, product in zip(powers, powers[log:] + powers[:log]):
            products[other] = product
    return products


def traces_of(field):
    """The list that has for each element its trace."""
    traces = [0]
    for element in first_powers(field.prime, field.degree - 1):
        # Traces add up, so one more digit adds a multiple of the trace of its place.
        step = field.trace_of(element)
        traces = [(digit * step + trace) % field.prime for digit in range(field.prime) for trace in traces]
    return traces


def trace_counts(field, order):
    """The list that has for each trace the list of how many elements of each class have it."""
    traces = traces_of(field)
    counts = [[0] * order for _ in range(field.prime)]
    for log, element in enumerate(field.all_powers()):
        counts[traces[element]][log % order] += 1
    return counts
