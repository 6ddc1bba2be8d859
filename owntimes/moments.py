"""The moments at which works begin and end, for given times."""

from owntimes.checks import check_moment, check_number, check_times
from owntimes.lines import check_line
from owntimes.plays import played, played_end
from owntimes.stuck import check_free


def moments(line, times, number):
    """For each station the pair of the tuples of the moments at which its works begin, and end."""
    _check(line, times, number)
    return tuple(_play(line, times, number))


def end(line, times, number):
    """The moment at which the outlet's work with this number ends."""
    _check(line, times, number)
    check_free(line)
    return played_end(line, times, number)


def whole_end(line, times, number):
    """The greatest moment at which a work of any station with a number up to this one ends."""
    _check(line, times, number)
    return max([max(ends) for _, ends in _play(line, times, number)])


def events(line, times, number):
    """The beginnings and ends of all works up to this number, in the order in which they happen."""
    _check(line, times, number)
    found = []
    for name, (begins, ends) in zip(line.names, _play(line, times, number)):
        for at in range(number):
            found.append((begins[at], at + 1, name, "begin"))
            found.append((ends[at], at + 1, name, "end"))
    for event in sorted(found):
        yield event


def under_way(line, times, number, moment):
    """The ascending tuple of the tasks up to this number that have begun at this moment and not ended."""
    _check(line, times, number)
    check_moment(moment)
    found = _play(line, times, number)
    rows = [(name, found[line.names.index(name)]) for name in line.timed]
    return tuple([
        (name, at + 1) for at in range(number) for name, (begins, ends) in rows if begins[at] <= moment < ends[at]
    ])


def _check(line, times, number):
    """Raise the error of the first of these that is not valid."""
    check_line(line)
    check_times(times)
    check_number(number)


def _play(line, times, number):
    """For each station the tuples of the begins and ends of its works up to this number; Stuck if there are none."""
    check_free(line)
    return played(line, times, number)
