"""Sets of integers from 0 on below a bound, written down as the bits of one integer.

A set that comes again is written down by its members below start + period, for a
start from which on it comes again by the period.
"""

from math import gcd


def bits_with(numbers):
    """The bits of these numbers."""
    found = 0
    for number in numbers:
        found = found | (1 << number)
    return found


def bits_of(row, many):
    """The members of a row that are below many."""
    flags, start = row
    single = bits_with([number for number in range(start) if flags[number]])
    again = bits_with([number for number in range(start, len(flags)) if flags[number]])
    return below(single | repeated(again, len(flags) - start, many), many)


def flags_of(bits, many):
    """For each number below many whether it is a member."""
    return tuple([bits >> number & 1 == 1 for number in range(many)])


def least_in(bits):
    """The least member of a set that has members."""
    return (bits & -bits).bit_length() - 1


def members_of(bits):
    """The members, ascending."""
    found = []
    while bits > 0:
        least = least_in(bits)
        found.append(least)
        bits = bits ^ (1 << least)
    return found


def below(bits, many):
    """The members below many."""
    return bits & ((1 << many) - 1)


def repeated(bits, period, many):
    """The members and what is any number of periods above them, as far as it is below many."""
    step = period
    # What stands there already is put on top of itself, twice as far each time.
    while step < many:
        bits = bits | (bits << step)
        step = 2 * step
    return below(bits, many)


def sums_with(bits, numbers, many):
    """The sums of a member and one of the numbers, as far as they are below many."""
    found = 0
    for number in numbers:
        found = found | (bits << number)
    return below(found, many)


def folded(bits, many):
    """The classes by many in which there are members."""
    found = 0
    while bits > 0:
        found = found | below(bits, many)
        bits = bits >> many
    return found


def classes_in(bits, start, period, many):
    """The classes by many in which there are members of a set that comes again."""
    near = gcd(period, many)
    again = repeated(folded((bits >> start) << (start % near), near), near, many)
    return again | folded(below(bits, start), many)


def told_upto(bits, start, period, many):
    """The members below many of a set that comes again."""
    return below(below(bits, start) | (repeated(bits >> start, period, many) << start), many)


def settled_at(bits, start, period):
    """The least number from which on a set that comes again does so."""
    return below(bits ^ (bits >> period), start).bit_length()
