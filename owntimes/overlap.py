"""Which tasks can be under way together, and how many at most."""

from owntimes.checks import check_names, check_tasks
from owntimes.covers import least_cover, way_lag
from owntimes.cuts import tasks_between
from owntimes.lines import check_line
from owntimes.nets import net_of
from owntimes.repeats import flag_at
from owntimes.stuck import check_free


def may_overlap(line, tasks):
    """Whether these tasks can be under way together."""
    check_line(line)
    check_tasks(tasks, line.timed)
    check_free(line)
    _, orders = net_of(line)
    ordered = sorted([(number, name) for name, number in tasks])
    for at, (number, name) in enumerate(ordered):
        for other, second in ordered[:at]:
            if flag_at(orders[second, name], number - other):
                return False
            if other == number and flag_at(orders[name, second], 0):
                return False
    return True


def most_at_once(line, names=None):
    """How many tasks of these stations can be under way together at most, None if there is no bound."""
    _, ways = _chosen(line, names)
    return None if ways is None else sum([way_lag(line, way) for way in ways])


def overlapping(line, names=None):
    """So many tasks of these stations, ascending, that can be under way together; None if there is no bound."""
    chosen, ways = _chosen(line, names)
    return None if ways is None else tasks_between(line, chosen, ways)


def _chosen(line, names):
    """The names that are meant, and the closed ways of the least lag through the works of these stations."""
    check_line(line)
    check_names(names, line.timed)
    check_free(line)
    chosen = line.timed if names is None else names
    return chosen, least_cover(line, chosen)
