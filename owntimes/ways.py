"""Points, the steps between them, and what ways over steps lead to.

The beginning of the station at a place of the line is a point, an even number, and
its end the number behind it. As steps are the same for all numbers, points of one
number are written down as the bits of one integer.
"""


def begin_of(line, name):
    """The point at which works of this station begin."""
    return 2 * line.names.index(name)


def end_of(line, name):
    """The point at which works of this station end."""
    return 2 * line.names.index(name) + 1


def most_back(line):
    """The greatest of all stocks and hands, at least 1: a number hangs on so many numbers before it."""
    stocks = [link.stock for link in line.links]
    hands = [station.hands for station in line.stations if station.hands is not None]
    return max([1] + stocks + hands)


def places_in_turn(line):
    """The places of the stations of a line that is not stuck, each behind those that it waits for at one number."""
    names = line.names
    waits = [(names.index(link.source), names.index(link.target)) for link in line.links if link.stock == 0]
    found = []
    while len(found) < len(names):
        for place in range(len(names)):
            if place not in found and all([source in found for source, target in waits if target == place]):
                found.append(place)
    return found


def steps_of(line):
    """All steps, each as by how many numbers it leads on, from which point, and to which one."""
    found = []
    for station in line.stations:
        begin, end = begin_of(line, station.name), end_of(line, station.name)
        found.append((0, begin, end))
        if station.hands is not None:
            found.append((station.hands, end, begin))
    for link in line.links:
        source = begin_of(line, link.source) if link.early else end_of(line, link.source)
        found.append((link.stock, source, begin_of(line, link.target)))
    return found


def reached_from(line, point):
    """The points that ways from this one lead to, as a list with those of each number, and where they come again.

    Numbers count from that of the point on. The part of the list from the second value on, which is at
    least 1, comes again without end. The line is not stuck.
    """
    steps = steps_of(line)
    near = _reached_at_once(steps, 2 * len(line))
    later = [(lag, source, near[target]) for lag, source, target in steps if lag > 0]
    ahead = most_back(line)
    # Nothing stands before the first number, so that each number has as many before it as it hangs on.
    rows = [0] * ahead + [near[point]]
    seen = {}
    last = tuple(rows[-ahead:])
    while last not in seen:
        seen[last] = len(rows) - ahead
        rows.append(_next_points(rows, later))
        last = tuple(rows[-ahead:])
    return rows[ahead:], seen[last]


def order_row(line, first, second):
    """The order lags of two stations of a line that is not stuck, as a row."""
    return _row_at(reached_from(line, end_of(line, first)), begin_of(line, second))


def outlet_row(line, name):
    """The outlet lags of a station of a line that is not stuck, as a row."""
    flags, start = order_row(line, name, line.outlet)
    # A work of the outlet reaches its own number, though it is not before itself. The flag of 0 can be
    # changed alone, as it is never in the part that comes again.
    return (flags[0] or name == line.outlet,) + flags[1:], start


def _row_at(reached, point):
    """The row of the numbers at which this point is reached."""
    rows, start = reached
    return tuple([row >> point & 1 == 1 for row in rows]), start


def _next_points(rows, later):
    """The points of the next number that are reached from those of the numbers before it."""
    found = 0
    for lag, source, reach in later:
        if rows[-lag] >> source & 1:
            found = found | reach
    return found


def _reached_at_once(steps, many):
    """For each of so many points those of the same number that ways from it lead to, itself included."""
    found = [1 << point for point in range(many)]
    short = [(source, target) for lag, source, target in steps if lag == 0]
    # No way of different points is longer than there are points.
    for _ in range(many):
        for source, target in short:
            found[source] = found[source] | found[target]
    return found
