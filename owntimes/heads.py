"""Head starts: by how many numbers later the ends of a line are taken, for another line to be never later than it."""

from math import lcm

from owntimes.bits import below, bits_of, least_in
from owntimes.nets import cases_of_two, outlets_beside
from owntimes.repeats import opposite_row


def leads_by(left, right, start):
    """Whether the line with the one net is never later than the one with the other net by this head start."""
    return not cases_of_two(left, right) and _bad_starts(left, right, start + 1) >> start == 0


def least_lead(left, right):
    """The least head start by which the line with the one net is never later than the other one, None if none is."""
    # What must be in sequence does not hang on the head start.
    if cases_of_two(left, right):
        return None
    many, period = 0, 1
    for flags, start in right[0].values():
        many, period = max(many, start), lcm(period, len(flags) - start)
    # Greater head starts than these do if one that is less by the period does.
    many = many + period
    good = below(-1, many) & ~_bad_starts(left, right, many)
    return least_in(good) if good else None


def _bad_starts(left, right, many):
    """The head starts below many by which some task that reaches a number in the one line is late in the other one."""
    found = 0
    for row, other in outlets_beside(left, right):
        # A member from here on is moved to where one was moved that is less by this period.
        far = max(row[1], other[1]) + lcm(len(row[0]) - row[1], len(other[0]) - other[1])
        lost, members = bits_of(opposite_row(other), far + many), bits_of(row, far)
        for lag in range(far):
            if members >> lag & 1:
                found = found | lost >> lag
    return below(found, many)
