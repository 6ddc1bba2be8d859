"""The moments at which works begin and end, for given times."""

from owntimes.checks import check_moment, check_number, check_times
from owntimes.lines import check_line
from owntimes.stuck import check_free
from owntimes.ways import most_back, places_in_turn


def moments(line, times, number):
    """For each station the pair of the tuples of the moments at which its works begin, and end."""
    _check(line, times, number)
    return tuple(_play(line, times, number))


def end(line, times, number):
    """The moment at which the outlet's work with this number ends."""
    _check(line, times, number)
    _, ends = _play(line, times, number)[line.names.index(line.outlet)]
    return ends[-1]


def whole_end(line, times, number):
    """The greatest moment at which a work of any station with a number up to this one ends."""
    _check(line, times, number)
    return max([max(ends) for _, ends in _play(line, times, number)])


def events(line, times, number):
    """The beginnings and ends of all works up to this number, in the order in which they happen."""
    _check(line, times, number)
    found = []
    for name, (begins, ends) in zip(line.names, _play(line, times, number)):
        for at in range(number):
            found.append((begins[at], at + 1, name, "begin"))
            found.append((ends[at], at + 1, name, "end"))
    for event in sorted(found):
        yield event


def under_way(line, times, number, moment):
    """The ascending tuple of the tasks up to this number that have begun at this moment and not ended."""
    _check(line, times, number)
    check_moment(moment)
    played = _play(line, times, number)
    rows = [(name, played[line.names.index(name)]) for name in line.timed]
    return tuple([
        (name, at + 1) for at in range(number) for name, (begins, ends) in rows if begins[at] <= moment < ends[at]
    ])


def _check(line, times, number):
    """Raise the error of the first of these that is not valid."""
    check_line(line)
    check_times(times)
    check_number(number)


def _play(line, times, number):
    """For each station the tuples of the begins and ends of its works up to this number; Stuck if there are none."""
    check_free(line)
    ahead = most_back(line)
    # Nothing waits for a work before the first one: all of those count as done at 0.
    begins = [[0] * ahead for _ in line.names]
    ends = [[0] * ahead for _ in line.names]
    waits = _waits(line, begins, ends)
    spans = [_spans(station, times, number) for station in line.stations]
    turn = places_in_turn(line)
    for at in range(number):
        for place in turn:
            begin = max([0] + [row[ahead + at - lag] for lag, row in waits[place]])
            begins[place].append(begin)
            ends[place].append(begin + spans[place][at])
    return [(tuple(one[ahead:]), tuple(other[ahead:])) for one, other in zip(begins, ends)]


def _waits(line, begins, ends):
    """For each station what its works wait for: how many numbers before, and the moments of those works."""
    waits = []
    for place, station in enumerate(line.stations):
        waits.append([] if station.hands is None else [(station.hands, ends[place])])
    for link in line.links:
        source = line.names.index(link.source)
        row = begins[source] if link.early else ends[source]
        waits[line.names.index(link.target)].append((link.stock, row))
    return waits


def _spans(station, times, number):
    """The times of the works of a station up to this number."""
    if not station.timed:
        return [0] * number
    return [times.get((station.name, at + 1), 0) for at in range(number)]
