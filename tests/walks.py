"""Lines worked out again, straight by the words of the document: rings, plays, ways over points."""

BEGIN, END = "begin", "end"


def links_of(line):
    """The links as plain tuples."""
    return [(link.source, link.target, link.stock, link.early) for link in line.links]


def is_stuck(line):
    """Whether a station comes back to itself over links with the stock 0."""
    for first in line.names:
        seen, todo = set(), [first]
        while todo:
            at = todo.pop()
            for source, target, stock, _ in links_of(line):
                if source == at and stock == 0:
                    if target == first:
                        return True
                    if target not in seen:
                        seen.add(target)
                        todo.append(target)
    return False


def rings(line):
    """All rings: the sets of links that enter and leave each of their stations once, and hang together."""
    links, names, found = links_of(line), list(line.names), []
    for chosen in range(1, 1 << len(links)):
        indexes = [at for at in range(len(links)) if chosen >> at & 1]
        sources = {links[at][0]: at for at in indexes}
        targets = {links[at][1]: at for at in indexes}
        if not len(sources) == len(targets) == len(indexes) or set(sources) != set(targets):
            continue
        first = min(sources, key=names.index)
        way, at = [], first
        while not way or at != first:
            way.append(sources[at])
            at = links[sources[at]][1]
        if len(way) == len(indexes):
            found.append(tuple(way))
    return tuple(sorted(found))


def stock_of(line, ring):
    return sum(line.links[at].stock for at in ring)


def played_by_moments(line, times, number):
    """The begins and ends of all works up to the number, moment by moment: for small times."""
    begins, ends, moment = {}, {}, 0
    works = [(station, k) for station in line.stations for k in range(1, number + 1)]
    while len(begins) < len(works):
        changed = True
        while changed:
            changed = False
            for station, k in works:
                if (station.name, k) not in begins and _can_begin(line, station, k, moment, begins, ends):
                    begins[station.name, k] = moment
                    time = times.get((station.name, k), 0) if station.timed else 0
                    ends[station.name, k] = moment + time
                    changed = True
        moment += 1
    return begins, ends


def _can_begin(line, station, k, moment, begins, ends):
    far = moment + 1
    for source, target, stock, early in links_of(line):
        if target == station.name and k > stock:
            if (begins if early else ends).get((source, k - stock), far) > moment:
                return False
    if station.hands is not None and k > station.hands:
        return ends.get((station.name, k - station.hands), far) <= moment
    return True


def played_by_numbers(line, times, number):
    """Likewise, each moment asked for by what it waits for: for all times."""
    begins, ends = {}, {}

    def begin(name, k):
        if (name, k) not in begins:
            station = line[name]
            waits = [0]
            for source, target, stock, early in links_of(line):
                if target == name and k > stock:
                    waits.append((begin if early else end)(source, k - stock))
            if station.hands is not None and k > station.hands:
                waits.append(end(name, k - station.hands))
            begins[name, k] = max(waits)
        return begins[name, k]

    def end(name, k):
        if (name, k) not in ends:
            ends[name, k] = begin(name, k) + (times.get((name, k), 0) if line[name].timed else 0)
        return ends[name, k]

    for k in range(1, number + 1):
        for name in line.names:
            end(name, k)
    return begins, ends


def steps_from(line, point):
    """The points that one step leads to from a point (name, number, word)."""
    name, k, word = point
    found = []
    if word == BEGIN:
        found.append((name, k, END))
    elif line[name].hands is not None:
        found.append((name, k + line[name].hands, BEGIN))
    for source, target, stock, early in links_of(line):
        if source == name and early == (word == BEGIN):
            found.append((target, k + stock, BEGIN))
    return found


def led_to(line, point, last):
    """The points with numbers up to the last one to which ways of one step or more lead."""
    found, todo = set(), [point]
    while todo:
        for new in steps_from(line, todo.pop()):
            if new[1] <= last and new not in found:
                found.add(new)
                todo.append(new)
    return found


def order_flags(line, first, second, last, k=1):
    """For each d up to the last one whether the work k of the first is before the work k + d of the second."""
    found = led_to(line, (first, k, END), k + last)
    return [(second, k + d, BEGIN) in found for d in range(last + 1)]


def outlet_flags(line, name, last, k=1):
    """For each d up to the last one whether the work k of the station reaches the number k + d."""
    flags = order_flags(line, name, line.outlet, last, k)
    return [flag or (d == 0 and name == line.outlet) for d, flag in enumerate(flags)]


def settled(line, first, word=END):
    """(start, period) by which the points led to from a point come again: the plain way of point 13."""
    width = max([1] + [link.stock for link in line.links] + [s.hands for s in line.stations if s.hands is not None])
    last = 64
    while True:
        rows = [[] for _ in range(last + 1)]
        for name, k, kind in led_to(line, (first, 1, word), last + 1):
            rows[k - 1].append((name, kind))
        rows, seen = [tuple(sorted(row)) for row in rows], {}
        # The point itself stands in no row, so rows are looked at behind the first one.
        for at in range(1, last + 2 - width):
            window = tuple(rows[at:at + width])
            if window in seen:
                return seen[window], at - seen[window]
            seen[window] = at
        last *= 2
