"""What must come behind what in a line: order lags, outlet lags and tasks in sequence."""

from owntimes.checks import check_known, check_number, check_tasks
from owntimes.lagsets import lags_of
from owntimes.lines import check_line
from owntimes.repeats import flag_at
from owntimes.stuck import check_free
from owntimes.ways import order_row, outlet_row, places_in_turn


def order_lags(line, first, second):
    """The lag set of all d such that each work k of the first station is before the work k + d of the second."""
    check_line(line)
    check_known(first, line.names)
    check_known(second, line.names)
    check_free(line)
    return lags_of(order_row(line, first, second))


def outlet_lags(line, station):
    """The lag set of all d such that each work k of the station reaches the number k + d."""
    check_line(line)
    check_known(station, line.names)
    check_free(line)
    return lags_of(outlet_row(line, station))


def reaching(line, number):
    """The ascending tuple of all tasks of the line that reach this number."""
    check_line(line)
    check_number(number)
    check_free(line)
    rows = [(name, outlet_row(line, name)) for name in line.timed]
    return tuple([
        (name, task) for task in range(1, number + 1) for name, row in rows if flag_at(row, number - task)
    ])


def in_sequence(line, tasks):
    """Whether of each two of these tasks one is before the other."""
    check_line(line)
    check_tasks(tasks, line.timed)
    check_free(line)
    # No way leads to a smaller number, or back in turn at one number; and what is before a task is
    # before all that the task is before. So it is enough to look at neighbours in this order.
    places = places_in_turn(line)
    names = [line.names[place] for place in places]
    ordered = sorted([(number, names.index(name)) for name, number in tasks])
    rows = {}
    for (number, place), (later, other) in zip(ordered, ordered[1:]):
        if (place, other) not in rows:
            rows[(place, other)] = order_row(line, names[place], names[other])
        if not flag_at(rows[(place, other)], later - number):
            return False
    return True
