"""Rows: sets of integers from 0 on that come again, written down as flags.

A row is a pair (flags, start). The tuple flags has True or False for each integer
from 0 on; its part from start on, which is never empty, comes again without end.
"""

from math import gcd, lcm


def row_of(single, again, period):
    """The row of the integers in single and, in steps of the period, of those from each in again on."""
    start = max([0] + [number + 1 for number in single] + list(again))
    flags = [False] * (start + period)
    for number in single:
        flags[number] = True
    for first in again:
        for number in range(first, len(flags), period):
            flags[number] = True
    return tuple(flags), start


def parts_of(row):
    """The members below the start, those of the first period from there on, and the period."""
    flags, start = row
    single = tuple([number for number in range(start) if flags[number]])
    again = tuple([number for number in range(start, len(flags)) if flags[number]])
    return single, again, len(flags) - start


def flag_at(row, number):
    """Whether this number, from 0 on, is a member."""
    flags, start = row
    if number < len(flags):
        return flags[number]
    return flags[start + (number - start) % (len(flags) - start)]


def least_row(row):
    """The row of the same set with the least period and the least start for it."""
    flags, start = row
    period = _least_period(flags[start:])
    least = start
    while least > 0 and flags[least - 1] == flags[least - 1 + period]:
        least = least - 1
    return flags[:least + period], least


def with_zero(row, flag):
    """The row in which 0 is a member as this flag tells, and all else as it was."""
    flags, start = row
    if start == 0:
        flags, start = flags + flags[:1], 1
    return (flag,) + flags[1:], start


def least_of(row):
    """The least member, None if there is none."""
    flags, _ = row
    return flags.index(True) if True in flags else None


def settled_from(row):
    """The least number from which on all are members, None if there is none."""
    flags, start = least_row(row)
    return start if flags[start:] == (True,) else None


def only_row(one, other):
    """The row of what is in the one row and not in the other one."""
    # No period of both together is longer than this product, so that there is always an answer.
    return least_row(meeting_row(one, opposite_row(other), len(one[0]) * len(other[0])))


def opposite_row(row):
    """The row of all other integers; its start and period are the same."""
    flags, start = row
    return tuple([not flag for flag in flags]), start


def shifted_row(row, by):
    """The row of all members moved by this integer, as far as they are not below 0 then."""
    flags, start = row
    period = len(flags) - start
    moved = max(0, start + by)
    return tuple([number >= by and flag_at(row, number - by) for number in range(moved + period)]), moved


def meet(one, other):
    """Whether both rows have a member in common."""
    start = max(one[1], other[1])
    if any([flag_at(one, number) and flag_at(other, number) for number in range(start)]):
        return True
    return any(_shared_classes(cycle_from(one, start), cycle_from(other, start)))


def meeting_row(one, other, limit):
    """The row of what is in both rows; None if already its least period is above the limit."""
    start = max(one[1], other[1])
    period = meeting_period(cycle_from(one, start), cycle_from(other, start))
    if period > limit:
        return None
    return tuple([flag_at(one, number) and flag_at(other, number) for number in range(start + period)]), start


def meeting_period(one, other):
    """The least period of what is in both of two cycles of flags that begin at the same number."""
    # The cycles meet in all pairs of members of one class by the greatest common divisor. So members
    # in classes where the other cycle has none can be left out, and a period of the meeting is one of
    # all the rest of each cycle. That way nothing as long as the common multiple is ever written down.
    shared = _shared_classes(one, other)
    return lcm(_least_period(_kept(one, shared)), _least_period(_kept(other, shared)))


def _shared_classes(one, other):
    """For each class by the greatest common divisor of both lengths: whether both have a member there."""
    many = gcd(len(one), len(other))
    return [any(one[first::many]) and any(other[first::many]) for first in range(many)]


def _kept(cycle, shared):
    """The cycle with its members in shared classes alone."""
    return [cycle[at] and shared[at % len(shared)] for at in range(len(cycle))]


def cycle_from(row, first):
    """The flags of one period from this number on, which is not before the start."""
    return [flag_at(row, first + at) for at in range(len(row[0]) - row[1])]


def _least_period(cycle):
    """The least number by which the cycle, coming again and again, can be moved onto itself."""
    many = len(cycle)
    for period in range(1, many):
        if many % period == 0 and cycle[period:] == cycle[:-period]:
            return period
    return many
