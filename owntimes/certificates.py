"""Claims for the checker with certificates that it accepts."""

from owntimes.checks import check_bound
from owntimes.comparing import never_later
from owntimes.covers import least_cover
from owntimes.factors import beyond
from owntimes.lines import check_line
from owntimes.overlap import most_at_once, overlapping
from owntimes.ways import end_of, most_back, names_at, reached_from, reached_upto

_MOST_AT_ONCE = 60


def certify_later(one, other, bound=1):
    """The claim that the end of the one line can be more than bound times that of the other one, None if it cannot."""
    case = beyond(one, other, bound)
    return None if case is None else (("later", str(one), str(other), bound), case)


def certify_never_later(one, other):
    """The claim that the one line is never later than the other one, None if it can be."""
    if not never_later(one, other):
        return None
    return ("never later", str(one), str(other)), (_table_of_rows(one), _table_of_rows(other))


def certify_at_once(line, bound):
    """The claim that so many tasks can be under way together, or that never more than one less can."""
    check_line(line)
    check_bound(bound, _MOST_AT_ONCE)
    most = most_at_once(line)
    if most is not None and most < bound:
        return ("not at once", str(line), bound - 1), tuple(least_cover(line, line.timed))
    return ("at once", str(line), bound), _tasks_at_once(line, bound)


def _tasks_at_once(line, many):
    """So many tasks, ascending, that can be under way together, where that many can."""
    for name in line.timed:
        if most_at_once(line, (name,)) is None:
            return tuple([(name, at + 1) for at in range(many)])
    return overlapping(line)[:many]


def _table_of_rows(line):
    """For each timed station the pair of its name and of the rows of what ways from its ends lead to."""
    return tuple([(name, _rows_told(line, name)) for name in line.timed])


def _rows_told(line, name):
    """The rows of the ends and beginnings that ways from the ends of a station lead to, until they come again."""
    reached, _ = reached_from(line, end_of(line, name))
    # Behind as many numbers more as later ones hang on, the last rows are as those from which it comes again.
    many = len(reached) + most_back(line)
    return tuple([names_at(line, points) for points in reached_upto(line, end_of(line, name), many)])
