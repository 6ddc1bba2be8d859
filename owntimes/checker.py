"""Whether a certificate shows that a claim is true, whoever wrote both."""

from owntimes.errors import InvalidText
from owntimes.lines import Line
from owntimes.nets import least_case, net_from
from owntimes.plays import played_end
from owntimes.stuck import stuck
from owntimes.values import is_between, is_from, is_one_of, is_pair, is_task
from owntimes.ways import HAND, WORK, are_apart, end_of, most_back, names_at, reached_upto, step_at

_MOST_NUMBER = 20000
_SIZES = {"later": 4, "at once": 3, "not at once": 3, "never later": 3}
_WITH_OTHER = ("later", "never later")


def accepts(claim, certificate):
    """Whether this is a claim for the checker with a certificate for it."""
    if not isinstance(claim, tuple) or not claim or not is_one_of(claim[0], list(_SIZES)):
        return False
    word, number = claim[0], claim[-1]
    if len(claim) != _SIZES[word] or (word != "never later" and not is_from(number, 0)):
        return False
    lines = [_line_told(text) for text in (claim[1:3] if word in _WITH_OTHER else claim[1:2])]
    if any([line is None for line in lines]):
        return False
    if word == "later":
        return _shows_later(lines[0], lines[1], number, certificate)
    if word == "at once":
        return _shows_at_once(lines[0], number, certificate)
    if word == "not at once":
        return _shows_not_at_once(lines[0], number, certificate)
    return _shows_never_later(lines[0], lines[1], certificate)


def _line_told(text):
    """The line with this text; None if there is none, or if it is stuck."""
    try:
        line = Line.read(text)
    except InvalidText:
        return None
    return line if stuck(line) is None else None


def _shows_later(line, other, bound, case):
    """Whether in this case the end of the line is more than bound times that of the other one."""
    if not is_pair(case) or not is_between(case[0], 1, _MOST_NUMBER) or not _are_tasks(case[1]):
        return False
    number, tasks = case
    times = {task: 1 for task in tasks}
    return played_end(line, times, number) > bound * played_end(other, times, number)


def _shows_at_once(line, many, tasks):
    """Whether these are so many tasks of the line that can be under way together."""
    if not _are_tasks(tasks) or len(tasks) != many:
        return False
    if not all([is_one_of(name, line.timed) and number <= _MOST_NUMBER for name, number in tasks]):
        return False
    return are_apart(line, tasks)


def _shows_not_at_once(line, most, ways):
    """Whether these are closed ways through the works of all timed stations, with no more lag in all than this."""
    if not isinstance(ways, tuple) or not all([_is_closed_way(line, way) for way in ways]):
        return False
    steps = [step for way in ways for step in way]
    works = [step[1] for step in steps if isinstance(step, tuple) and step[0] == WORK]
    lags = [step_at(line, step)[0] for step in steps]
    return sum(lags) <= most and all([name in works for name in line.timed])


def _is_closed_way(line, way):
    """Whether these are steps, each from where the one before it led, and the first one from where the last one led."""
    if not isinstance(way, tuple) or not way or not all([_is_step(line, step) for step in way]):
        return False
    points = [step_at(line, step) for step in way]
    return all([points[at - 1][2] == points[at][1] for at in range(len(points))])


def _is_step(line, value):
    """Whether this is a step of the line."""
    if not isinstance(value, tuple):
        return is_between(value, 0, len(line.links) - 1)
    if not is_pair(value) or not is_one_of(value[0], (WORK, HAND)) or not is_one_of(value[1], line.names):
        return False
    return value[0] == WORK or line[value[1]].hands is not None


def _shows_never_later(line, other, tables):
    """Whether these are tables of rows of both lines by which the one is never later than the other one."""
    if not is_pair(tables):
        return False
    left, right = _net_told(line, tables[0]), _net_told(other, tables[1])
    return left is not None and right is not None and least_case(left, right) is None


def _net_told(line, table):
    """The net of the line that a table of rows tells, None if this is no such table."""
    if not isinstance(table, tuple) or len(table) != len(line.timed):
        return None
    reached = {}
    for name, part in zip(line.timed, table):
        if not is_pair(part) or not is_one_of(part[0], (name,)) or not isinstance(part[1], tuple):
            return None
        found = _reached_told(line, name, part[1])
        if found is None:
            return None
        reached[name] = found
    return net_from(line, reached)


def _reached_told(line, name, rows):
    """What ways from the ends of this station lead to, and from where on it comes again, as the rows tell it.

    None if a row is wrong, or if it is not told where it comes again.
    """
    if not all([is_pair(row) and _are_names(row[0]) and _are_names(row[1]) for row in rows]):
        return None
    points, back = reached_upto(line, end_of(line, name), len(rows)), most_back(line)
    if rows != tuple([names_at(line, row) for row in points]):
        return None
    # The last numbers tell all later ones, and they are as earlier ones, behind which it is told.
    for at in range(len(rows) - back):
        if points[at:at + back] == points[-back:]:
            return points[:-back], at
    return None


def _are_tasks(value):
    """Whether this is a tuple of tasks, ascending in their order."""
    if not isinstance(value, tuple) or not all([is_task(task) for task in value]):
        return False
    ordered = [(number, name) for name, number in value]
    return all([one < other for one, other in zip(ordered, ordered[1:])])


def _are_names(value):
    """Whether this is a tuple of strings."""
    return isinstance(value, tuple) and all([isinstance(name, str) for name in value])
