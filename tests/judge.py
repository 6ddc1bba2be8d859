"""Claims for the checker judged by the words of point 22, with plays and walks over points."""

from owntimes.errors import InvalidText
from owntimes.lines import Line
from tests import walks
from tests.words import Words, far_enough, least_case_is_none, order

LETTERS, REST = "abcdefghijklmnopqrstuvwxyz", "abcdefghijklmnopqrstuvwxyz0123456789"


def judge(claim, certificate):
    """Whether the one is a claim for the checker and the other one a certificate for it."""
    if type(claim) is not tuple or not claim or type(claim[0]) is not str:
        return False
    kinds = {"later": "llN", "at once": "lN", "not at once": "lN", "never later": "ll"}.get(claim[0])
    if kinds is None or len(claim) != 1 + len(kinds):
        return False
    parts = []
    for kind, part in zip(kinds, claim[1:]):
        parts.append(free_line(part) if kind == "l" else part if type(part) is int and part >= 0 else None)
    if None in parts:
        return False
    words = {"later": later, "at once": at_once, "not at once": not_at_once, "never later": never_later}
    return words[claim[0]](*parts, certificate)


def free_line(text):
    if type(text) is not str:
        return None
    try:
        line = Line.read(text)
    except InvalidText:
        return None
    return None if walks.is_stuck(line) else line


def is_tuple(value, many=None):
    return type(value) is tuple and (many is None or len(value) == many)


def is_task(value):
    if not is_tuple(value, 2) or type(value[0]) is not str or type(value[1]) is not int or value[1] < 1:
        return False
    name = value[0]
    return 1 <= len(name) <= 8 and name[0] in LETTERS and all(sign in REST for sign in name)


def are_tasks(value):
    """A tuple of tasks, each greater than the one before it."""
    if not is_tuple(value) or not all(is_task(task) for task in value):
        return False
    return all(order(one) < order(other) for one, other in zip(value, value[1:]))


def later(line, other, bound, case):
    if not is_tuple(case, 2) or type(case[0]) is not int or not 1 <= case[0] <= 20000 or not are_tasks(case[1]):
        return False
    times, number = dict.fromkeys(case[1], 1), case[0]
    left, right = [walks.played_by_numbers(one, times, number)[1][one.outlet, number] for one in (line, other)]
    return left > bound * right


def at_once(line, many, tasks):
    if not are_tasks(tasks) or len(tasks) != many:
        return False
    if any(name not in line.timed or k > 20000 for name, k in tasks):
        return False
    words = Words(line, max([k for _, k in tasks], default=1))
    return not any(words.before(one, other) for one in tasks for other in tasks)


def not_at_once(line, most, ways):
    if not is_tuple(ways):
        return False
    lags, through = 0, set()
    for way in ways:
        if not is_tuple(way) or not way:
            return False
        # A point in the midst of the works, followed step by step from where the first step begins.
        steps = [step_of(line, step) for step in way]
        if None in steps:
            return False
        name, number, word = (*steps[0][0][:1], 0, steps[0][0][1])
        first = (name, number, word)
        for source, target, lag in steps:
            if (name, word) != source:
                return False
            (name, word), number = target, number + lag
        if (name, word) != (first[0], first[2]):
            return False
        lags += number
        through |= {source[0] for source, target, lag in steps if (source[1], target[1]) == ("begin", "end")}
    return lags <= most and through >= set(line.timed)


def step_of(line, step):
    """(from, to, lag) of a step, from and to as pairs of a name and a word; None if it is none."""
    if type(step) is int:
        if not 0 <= step < len(line.links):
            return None
        link = line.links[step]
        return (link.source, "begin" if link.early else "end"), (link.target, "begin"), link.stock
    if not is_tuple(step, 2) or type(step[0]) is not str or type(step[1]) is not str or step[1] not in line.names:
        return None
    if step[0] == "work":
        return (step[1], "begin"), (step[1], "end"), 0
    if step[0] == "hand" and line[step[1]].hands is not None:
        return (step[1], "end"), (step[1], "begin"), line[step[1]].hands
    return None


def never_later(line, other, tables):
    if not is_tuple(tables, 2) or not all(is_table(*two) for two in zip((line, other), tables)):
        return False
    # Such rows are right, so they tell what walks tell.
    return least_case_is_none(line, other, far_enough(line, other))


def is_table(line, table):
    if not is_tuple(table, len(line.timed)):
        return False
    width = max([1] + [link.stock for link in line.links] + [s.hands for s in line.stations if s.hands is not None])
    for name, part in zip(line.timed, table):
        if not is_tuple(part, 2) or type(part[0]) is not str or part[0] != name or not is_tuple(part[1]):
            return False
        rows = part[1]
        if len(rows) < width + 1 or not all(is_row(row) for row in rows):
            return False
        if list(rows) != right_rows(line, name, len(rows)):
            return False
        last = rows[-width:]
        if not any(rows[at:at + width] == last for at in range(len(rows) - width)):
            return False
    return True


def is_row(row):
    return is_tuple(row, 2) and all(is_tuple(names) and all(type(name) is str for name in names) for names in row)


def right_rows(line, name, many):
    """The rows of a station, by walks from the end of its first work."""
    found = {(name, 1, "end"), *walks.led_to(line, (name, 1, "end"), many)}
    names = sorted(line.names)
    return [
        tuple(tuple(other for other in names if (other, 1 + d, word) in found) for word in ("end", "begin"))
        for d in range(many)
    ]
