"""The sums of the members of two rows."""

from math import gcd

from owntimes.bits import below, bits_of, bits_with, flags_of, repeated, sums_with
from owntimes.repeats import cycle_from, flag_at, meeting_period, opposite_row, parts_of

# A sum with a coming member of the one row comes again by the period of that row, from itself on: in
# each class by this period the sums come from the least one on. The sums with a single member of it are
# moved copies of the other row: they come again by its period from both starts together on. So it is
# known what comes in the end, and where that differs from the sums is looked up below a bound, which is
# doubled until each class that has sums has come. The bound can be as far as the common multiple of the
# periods, but then a difference that is too far behind is mostly found early.


def sum_row(one, other, limit):
    """The row of all sums of a member of each; None if its least start and period are together above limit."""
    # Sums go both ways, and the fewer members of the one row come, the less there is to follow far.
    if _many_coming(one) > _many_coming(other):
        one, other = other, one
    copies, classes = _single_sums(one, other), _coming_classes(one, other)
    far = _far_sums(copies, classes, limit)
    if far is None:
        return None
    period, step = len(far[0]), len(classes[0])
    many = limit + len(one[0]) + len(other[0])
    found, odd, settled = 0, 0, False
    while not settled and odd.bit_length() + period <= limit:
        many = 2 * many
        coming = _coming_sums(one, other, many)
        found = coming | bits_of(copies, many)
        odd = found ^ bits_of(far, many)
        settled = coming >> (many - step) == bits_of(classes, many) >> (many - step)
    start = odd.bit_length()
    if start + period > limit:
        return None
    return flags_of(found, start + period), start


def _many_coming(row):
    """How many members come in one period of the row."""
    _, again, _ = parts_of(row)
    return len(again)


def _single_sums(one, other):
    """The row of the sums of a single member of the one row and a member of the other one."""
    single, _, _ = parts_of(one)
    start = one[1] + other[1]
    many = start + len(other[0]) - other[1]
    return flags_of(sums_with(bits_of(other, many), single, many), many), start


def _coming_sums(one, other, many):
    """The sums below many of a coming member of the one row and a member of the other one."""
    _, again, period = parts_of(one)
    return sums_with(repeated(bits_of(other, many), period, many), again, many)


def _coming_classes(one, other):
    """The row, from 0 on, of all numbers in those classes by the period of the one row that have coming sums."""
    _, again, period = parts_of(one)
    twice = sums_with(_classes_of(other, period), [first % period for first in again], 2 * period)
    return flags_of(below(twice | (twice >> period), period), period), 0


def _classes_of(row, period):
    """The classes by this period that have members of the row."""
    single, again, step = parts_of(row)
    near = gcd(step, period)
    found = repeated(bits_with([first % near for first in again]), near, period)
    return found | bits_with([number % period for number in single])


def _far_sums(copies, classes, limit):
    """The row, from 0 on, of what comes in the end; None if its period is above the limit."""
    start = copies[1]
    period = meeting_period(
        cycle_from(opposite_row(copies), start), cycle_from(opposite_row(classes), start),
    )
    if period > limit:
        return None
    first = start + -start % period
    flags = [flag_at(copies, first + at) or flag_at(classes, first + at) for at in range(period)]
    return tuple(flags), 0
