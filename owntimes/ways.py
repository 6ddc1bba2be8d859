"""Points, the steps between them, and what ways over steps lead to.

The beginning of the station at a place of the line is a point, an even number, and
its end the number behind it. As steps are the same for all numbers, points of one
number are written down as the bits of one integer.

A step is told by the index of a link, by ("work", name) if it leads from beginning
to end, or by ("hand", name) if it is the one by the hands of a station.
"""

from owntimes.repeats import with_zero

WORK = "work"
HAND = "hand"


def begin_of(line, name):
    """The point at which works of this station begin."""
    return 2 * line.names.index(name)


def end_of(line, name):
    """The point at which works of this station end."""
    return 2 * line.names.index(name) + 1


def most_back(line):
    """The greatest of all stocks and hands, at least 1: a number hangs on so many numbers before it."""
    stocks = [link.stock for link in line.links]
    hands = [station.hands for station in line.stations if station.hands is not None]
    return max([1] + stocks + hands)


def places_in_turn(line):
    """The places of the stations of a line that is not stuck, each behind those that it waits for at one number."""
    names = line.names
    waits = [(names.index(link.source), names.index(link.target)) for link in line.links if link.stock == 0]
    found = []
    while len(found) < len(names):
        for place in range(len(names)):
            if place not in found and all([source in found for source, target in waits if target == place]):
                found.append(place)
    return found


def steps_of(line):
    """All steps, each as by how many numbers it leads on, from which point, and to which one."""
    found = []
    for station in line.stations:
        found.append(step_at(line, (WORK, station.name)))
        if station.hands is not None:
            found.append(step_at(line, (HAND, station.name)))
    return found + [step_at(line, at) for at in range(len(line.links))]


def step_at(line, step):
    """A step that is told by the index of a link, or by a word and the name of a station."""
    if isinstance(step, tuple):
        word, name = step
        begin, end = begin_of(line, name), end_of(line, name)
        return (0, begin, end) if word == WORK else (line[name].hands, end, begin)
    link = line.links[step]
    source = begin_of(line, link.source) if link.early else end_of(line, link.source)
    return link.stock, source, begin_of(line, link.target)


def reached_from(line, point):
    """The points that ways from this one lead to, as a list with those of each number, and where they come again.

    Numbers count from that of the point on. The part of the list from the second value on, which is at
    least 1, comes again without end. The line is not stuck.
    """
    near, later, ahead = _steps_by_rows(line)
    # Nothing stands before the first number, so that each number has as many before it as it hangs on.
    rows = [0] * ahead + [near[point]]
    seen = {}
    last = tuple(rows[-ahead:])
    while last not in seen:
        seen[last] = len(rows) - ahead
        rows.append(_next_points(rows, later))
        last = tuple(rows[-ahead:])
    return rows[ahead:], seen[last]


def reached_upto(line, point, many):
    """The points that ways from this one lead to, as a list with those of each of so many numbers."""
    near, later, ahead = _steps_by_rows(line)
    rows = [0] * ahead + [near[point]]
    while len(rows) < ahead + many:
        rows.append(_next_points(rows, later))
    return rows[ahead:ahead + many]


def are_apart(line, tasks):
    """Whether no way leads from the end of one of these tasks, ascending, to the beginning of one."""
    if not tasks:
        return True
    near, later, ahead = _steps_by_rows(line)
    names = {}
    for name, number in tasks:
        names.setdefault(number, []).append(name)
    rows = [0] * ahead
    for number in range(tasks[0][1], tasks[-1][1] + 1):
        points = _next_points(rows, later)
        for name in names.get(number, ()):
            points = points | near[end_of(line, name)]
        if any([points >> begin_of(line, name) & 1 for name in names.get(number, ())]):
            return False
        rows = rows[1:] + [points]
    return True


def order_row(line, first, second):
    """The order lags of two stations of a line that is not stuck, as a row."""
    return row_at(reached_from(line, end_of(line, first)), begin_of(line, second))


def outlet_row(line, name):
    """The outlet lags of a station of a line that is not stuck, as a row."""
    return outlet_row_at(line, name, reached_from(line, end_of(line, name)))


def outlet_row_at(line, name, reached):
    """The outlet lags of a station, told by what ways from its ends lead to, as a row."""
    row = row_at(reached, begin_of(line, line.outlet))
    # A work of the outlet reaches its own number, though it is not before itself.
    return with_zero(row, True) if name == line.outlet else row


def names_at(line, points):
    """The names of the stations whose ends are among these points, ascending, and of those whose beginnings are."""
    names = sorted(list(line.names))
    return (
        tuple([name for name in names if points >> end_of(line, name) & 1]),
        tuple([name for name in names if points >> begin_of(line, name) & 1]),
    )


def row_at(reached, point):
    """The row of the numbers at which this point is reached."""
    rows, start = reached
    return tuple([row >> point & 1 == 1 for row in rows]), start


def _steps_by_rows(line):
    """What each point reaches at its own number, the steps to later numbers, and how far back these go."""
    steps = steps_of(line)
    near = _reached_at_once(steps, 2 * len(line))
    later = [(lag, source, near[target]) for lag, source, target in steps if lag > 0]
    return near, later, most_back(line)


def _next_points(rows, later):
    """The points of the next number that are reached from those of the numbers before it."""
    found = 0
    for lag, source, reach in later:
        if rows[-lag] >> source & 1:
            found = found | reach
    return found


def _reached_at_once(steps, many):
    """For each of so many points those of the same number that ways from it lead to, itself included."""
    found = [1 << point for point in range(many)]
    short = [(source, target) for lag, source, target in steps if lag == 0]
    # No way of different points is longer than there are points.
    for _ in range(many):
        for source, target in short:
            found[source] = found[source] | found[target]
    return found
