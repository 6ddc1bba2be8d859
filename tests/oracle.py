"""Lag sets worked out again in another way: as whole numbers whose bits are the members."""

from math import lcm


def ones(many):
    return (1 << many) - 1


def closed(mask, period, many):
    """The bits and all those a multiple of the period above them, below many."""
    step = period
    while step < many:
        mask |= mask << step
        step *= 2
    return mask & ones(many)


def mask_of(single, again, period, many):
    rays = 0
    for first in again:
        rays |= 1 << first
    mask = closed(rays, period, many)
    for number in single:
        mask |= 1 << number
    return mask & ones(many)


def mask_of_lags(lags, many):
    """The bits of the members of a lag set, by its start, period and members alone."""
    below = [member for member in lags.members if member < lags.start]
    again = [member for member in lags.members if member >= lags.start]
    return mask_of(below, again, lags.period, many)


def least_form(mask, settled, period, most=2000):
    """(start, period) of bits that come again from `settled` on by `period`; None if above `most` together."""
    for least in range(1, min(period, most) + 1):
        if ((mask >> settled) ^ (mask >> (settled + least))) & ones(period) == 0:
            start = ((mask ^ (mask >> least)) & ones(settled)).bit_length()
            return (start, least) if start + least <= most else None
    return None


def text_of(mask, start, period):
    words = [str(number) for number in range(start) if mask >> number & 1]
    words += [f"{number}+{period}" for number in range(start, start + period) if mask >> number & 1]
    return " ".join(words) if words else "none"


def room_for(one, other):
    """A number from which on all of |, &, -, + of both come again, and a period by which they do."""
    common = lcm(one.period, other.period)
    settled = one.start + other.start + one.period + other.period + common
    return settled, common


def sum_mask(one, other, many):
    right = mask_of_lags(other, many)
    early, rays = 0, 0
    for member in one.members:
        if member < one.start:
            early |= right << member
        else:
            rays |= right << member
    return (early | closed(rays & ones(many), one.period, many)) & ones(many)
