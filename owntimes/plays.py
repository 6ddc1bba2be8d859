"""The works of a line played for given times."""

from owntimes.ways import most_back, places_in_turn


def played(line, times, number):
    """For each station the tuples of the begins and ends of its works up to this number; the line is not stuck."""
    ahead = most_back(line)
    # Nothing waits for a work before the first one: all of those count as done at 0.
    begins = [[0] * ahead for _ in line.names]
    ends = [[0] * ahead for _ in line.names]
    waits = _waits(line, begins, ends)
    spans = [_spans(station, times, number) for station in line.stations]
    turn = places_in_turn(line)
    for at in range(number):
        for place in turn:
            begin = max([0] + [row[ahead + at - lag] for lag, row in waits[place]])
            begins[place].append(begin)
            ends[place].append(begin + spans[place][at])
    return [(tuple(one[ahead:]), tuple(other[ahead:])) for one, other in zip(begins, ends)]


def played_end(line, times, number):
    """The moment at which the outlet's work with this number ends; the line is not stuck."""
    _, ends = played(line, times, number)[line.names.index(line.outlet)]
    return ends[-1]


def _waits(line, begins, ends):
    """For each station what its works wait for: how many numbers before, and the moments of those works."""
    waits = []
    for place, station in enumerate(line.stations):
        waits.append([] if station.hands is None else [(station.hands, ends[place])])
    for link in line.links:
        source = line.names.index(link.source)
        row = begins[source] if link.early else ends[source]
        waits[line.names.index(link.target)].append((link.stock, row))
    return waits


def _spans(station, times, number):
    """The times of the works of a station up to this number."""
    if not station.timed:
        return [0] * number
    return [times.get((station.name, at + 1), 0) for at in range(number)]
