"""What must come behind what between all timed stations of a line, and lines compared by it.

A net is a pair (outlets, orders) of dicts: the outlet lags of each timed station
under its name, and the order lags of each two of them, also of one and itself,
under the pair of their names. All of them are rows.
"""

from owntimes.repeats import flag_at, least_of, least_row, only_row, with_zero
from owntimes.ways import begin_of, end_of, outlet_row_at, reached_from, row_at

_NOTHING = ((False,), 0)
_EVERYTHING = ((True,), 0)


def net_of(line):
    """The net of a line that is not stuck."""
    return net_from(line, {name: reached_from(line, end_of(line, name)) for name in line.timed})


def net_from(line, reached):
    """The net that is told by what ways from the ends of each timed station lead to, and where this comes again."""
    outlets, orders = {}, {}
    for name in line.timed:
        outlets[name] = least_row(outlet_row_at(line, name, reached[name]))
        for other in line.timed:
            orders[name, other] = least_row(row_at(reached[name], begin_of(line, other)))
    return outlets, orders


def whole_net_of(line):
    """The net of a line that is not stuck, in which every task counts, whether or not it reaches anything."""
    outlets, orders = net_of(line)
    return {name: _EVERYTHING for name in outlets}, orders


def sequence_row(orders, one, other):
    """All d such that the work k of the one station and the work k + d of the other one are in sequence."""
    row = orders.get((one, other), _NOTHING)
    # At one number the other work can come first, too; at any other it cannot.
    return with_zero(row, True) if flag_at(orders.get((other, one), _NOTHING), 0) else row


def outlets_beside(one, other):
    """The outlet lags of each station of the one net, and of this station in the other net."""
    return [(row, other[0].get(name, _NOTHING)) for name, row in one[0].items()]


def loose_row(one, other, first, second):
    """The order lags of these stations in the one net by which their works are not in sequence in the other one."""
    return only_row(one[1][first, second], sequence_row(other[1], first, second))


def least_case(one, other):
    """The least case in which the line with the one net is later than the one with the other; None if there is none."""
    return first_case(cases_of_one(one, other) + cases_of_two(one, other))


def first_case(cases):
    """The least of these cases, None if there are none."""
    if not cases:
        return None
    number, _, tasks = min(cases)
    return number, tuple([(name, task) for task, name in tasks])


def are_same(one, other):
    """Whether neither line is later than the other one in any case."""
    return least_case(one, other) is None and least_case(other, one) is None


def cases_of_one(one, other):
    """For each station the least case in which a work of it reaches a number in the one net alone."""
    lags = [least_of(only_row(row, less)) for row, less in outlets_beside(one, other)]
    return [(1 + lag, 1, ((1, name),)) for lag, name in zip(lags, one[0]) if lag is not None]


def cases_of_two(one, other):
    """For each two stations the least case in which works of them reach a number and are in sequence in the one net.

    In the other net they are not in sequence. A case is written down as it is ordered: the number,
    how many tasks it has, and the tasks, each with its number before its name.
    """
    found = []
    for first, second in one[1]:
        ahead = least_of(one[0][second])
        lag = None if ahead is None else least_of(loose_row(one, other, first, second))
        if lag is not None:
            tasks = sorted([(1, first), (1 + lag, second)])
            found.append((1 + lag + ahead, 2, tuple(tasks)))
    return found
