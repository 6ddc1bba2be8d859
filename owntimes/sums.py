"""The sums of the members of two rows."""

from math import gcd

from owntimes.repeats import least_row, meeting_period, parts_of

# Each sum has a member of the coming part of the one row in it, and then comes again by the period of
# that row; or likewise of the other row; or it is an early sum of two single members. Of the first two
# kinds it is enough to know the least sum in each class by the period: all further ones follow.


def sum_row(one, other, limit):
    """The row of all sums of a member of each; None if its least start and period are together above limit."""
    early = _early_sums(one, other)
    firsts, seconds = _least_sums(one, other), _least_sums(other, one)
    period = meeting_period([least is None for least in firsts], [least is None for least in seconds])
    if period > limit:
        return None
    bound = limit - period
    if _is_odd_from(bound, early, firsts, seconds):
        return None
    flags = [
        number in early or _has_come(firsts, number) or _has_come(seconds, number)
        for number in range(limit)
    ]
    return least_row((tuple(flags), bound))


def _early_sums(one, other):
    """A dict of the sums of the single members of both rows."""
    return {a + b: True for a in parts_of(one)[0] for b in parts_of(other)[0]}


def _least_sums(one, other):
    """For each class by the period of the one row the least sum with a coming member of it, or None."""
    _, again, period = parts_of(one)
    lows = [low for low in _least_members(other, period) if low is not None]
    least = [None] * period
    for first in again:
        for low in lows:
            known = least[(first + low) % period]
            if known is None or first + low < known:
                least[(first + low) % period] = first + low
    return least


def _least_members(row, period):
    """For each class by this period the least member, None if it has none."""
    single, again, step = parts_of(row)
    turns = period // gcd(step, period)
    members = list(single) + [first + step * turn for first in again for turn in range(turns)]
    least = [None] * period
    for member in sorted(members, reverse=True):
        least[member % period] = member
    return least


def _has_come(leasts, number):
    """Whether the class of the number has a least sum, and the number is not before it."""
    least = leasts[number % len(leasts)]
    return least is not None and least <= number


def _is_odd_from(bound, early, firsts, seconds):
    """Whether a number from the bound on is a sum, or none, other than those of its class far behind."""
    for number in list(early):
        if number >= bound and _never_comes(firsts, number) and _never_comes(seconds, number):
            return True
    return _is_missing_from(bound, early, firsts, seconds) or _is_missing_from(bound, early, seconds, firsts)


def _never_comes(leasts, number):
    """Whether the class of the number has no least sum."""
    return leasts[number % len(leasts)] is None


def _is_missing_from(bound, early, leasts, others):
    """Whether a number from the bound on comes before the least sum of its class, and is no other sum."""
    period = len(leasts)
    for least in leasts:
        if least is not None:
            for number in range(least - period, bound - 1, -period):
                if number not in early and not _has_come(others, number):
                    return True
    return False
