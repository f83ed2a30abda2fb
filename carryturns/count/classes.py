"""Sums of elements of classes, reckoned with by logs; nothing is checked here.

A class of a share exponent is told by a log; what holds of one element of it holds of all.
"""

from math import gcd, lcm


def counts_by_class(field, terms, order):
    """The list of the numbers of solutions for a goal of each class of an order, and for the goal 0."""
    # Without terms, 0 is the only sum.
    counts = [0, 1]
    # Terms with few classes come first: so long there are few classes of goals, too.
    pairs = sorted([(gcd(exponent, field.size - 1), factor) for factor, exponent in terms])
    for share, factor in pairs:
        first = field.log_of(field.opposite(factor))
        logs = list(range(first, first + field.size - 1, share))
        counts = counts_with_term(field, counts_for(counts, share), logs, share)
    return counts_for(counts, order)


def counts_for(counts, share):
    """The counts, told for the classes of the least multiple of their order and of another one."""
    order = len(counts) - 1
    return [counts[number % order] for number in range(lcm(order, share))] + [counts[-1]]


def counts_with_term(field, counts, logs, share):
    """The counts with one more term, told by the logs of the opposites of what it can be.

    The term is each of these as often as the share exponent tells, and once 0.
    """
    order = len(counts) - 1
    nexts = field.next_logs()
    found = []
    for goal in range(order):
        # What is left of the goal for the terms so far: the goal times 1 and a quotient.
        steps = [nexts[(log - goal) % len(nexts)] for log in logs]
        total = sum([counts[-1] if step is None else counts[(goal + step) % order] for step in steps])
        found.append(counts[goal] + share * total)
    found.append(counts[-1] + share * sum([counts[log % order] for log in logs]))
    return found


def next_classes(field, share, starts):
    """The list of the classes of all sums of an element of some classes and of a power."""
    nexts = field.next_logs()
    steps = [nexts[(log - start) % len(nexts)] for start in starts for log in range(0, len(nexts), share)]
    classes = [start for start in starts for _ in range(0, len(nexts), share)]
    return [(start + step) % share for start, step in zip(classes, steps) if step is not None]


def steps_from_zero(field, share):
    """The list of how many powers make the elements of each class of a share exponent, at least.

    It has None where no number of powers does.
    """
    steps = [None] * share
    # The powers themselves, with the exponent, are the class 0.
    steps[0] = 1
    starts = [0]
    for many in range(2, share + 1):
        found = next_classes(field, share, starts)
        starts = [number for number in sorted(set(found)) if steps[number] is None]
        for number in starts:
            steps[number] = many
    return steps
