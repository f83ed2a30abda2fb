"""The traces of all elements of a field, reckoned with; nothing is checked here."""

from carryturns.base.numbers import first_powers


def traces_of(field):
    """The list that has for each element its trace."""
    traces = [0]
    for element in first_powers(field.prime, field.degree - 1):
        # Traces add up, so one more digit adds a multiple of the trace of its place.
        step = field.trace_of(element)
        traces = [(digit * step + trace) % field.prime for digit in range(field.prime) for trace in traces]
    return traces


def trace_counts(field, order):
    """The list that has for each trace the list of how many elements of each class have it."""
    traces = traces_of(field)
    counts = [[0] * order for _ in range(field.prime)]
    for log, element in enumerate(field.all_powers()):
        counts[traces[element]][log % order] += 1
    return counts
