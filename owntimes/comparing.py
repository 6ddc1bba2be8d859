"""Lines compared for all times: whether one is never later than another one, and the least case in which it is."""

from owntimes.checks import check_flag
from owntimes.lines import check_line
from owntimes.nets import are_same, least_case, net_of, whole_net_of
from owntimes.stuck import check_free


def never_later(one, other, *, whole=False):
    """Whether the end of the one line is never greater than that of the other one."""
    return later_case(one, other, whole=whole) is None


def later_case(one, other, *, whole=False):
    """The least case in which the end of the one line is greater than that of the other one, None if there is none."""
    _check(one, other, whole)
    return least_case(_net(one, whole), _net(other, whole))


def same(one, other, *, whole=False):
    """Whether the ends of both lines are always equal."""
    _check(one, other, whole)
    return are_same(_net(one, whole), _net(other, whole))


def times_of(case):
    """The times of a case: 1 for each of its tasks."""
    _, tasks = case
    return {task: 1 for task in tasks}


def _check(one, other, whole):
    """Raise the error of the first of these that is not valid."""
    check_line(one)
    check_line(other)
    check_flag(whole)
    check_free(one)
    check_free(other)


def _net(line, whole):
    """The net by which ends, or whole ends, are compared."""
    return whole_net_of(line) if whole else net_of(line)
