"""What points 12 to 19 say, by walks over points: for numbers up to a last one."""

import itertools
from math import lcm

from tests import walks


def order(task):
    """The order of tasks: by number, then by name."""
    return task[1], task[0]


class Words:
    """A line's tasks, what is before what and what reaches which number, up to a last number."""

    def __init__(self, line, last, whole=False):
        self.names, self.outlet, self.last, self.whole = line.timed, line.outlet, last, whole
        self.orders = {
            (one, other): walks.order_flags(line, one, other, last) for one in line.timed for other in line.timed
        }
        self.outlets = {name: walks.outlet_flags(line, name, last) for name in line.timed}

    def tasks(self, number):
        return [(name, k) for k in range(1, number + 1) for name in self.names]

    def before(self, one, other):
        lag = other[1] - one[1]
        return one[0] in self.names and other[0] in self.names and lag >= 0 and self.orders[one[0], other[0]][lag]

    def in_sequence(self, one, other):
        return self.before(one, other) or self.before(other, one)

    def reaches(self, task, number):
        name, k = task
        return name in self.names and k <= number and (self.whole or self.outlets[name][number - k])

    def end(self, number, tasks):
        """The end in a case: the most of its tasks that come one behind another and reach the number."""
        counting = sorted([task for task in tasks if self.reaches(task, number)], key=order)
        return most_in_pairs(counting, self.in_sequence)


def most_in_pairs(tasks, fits):
    """The most of these tasks of which each two fit."""
    fitting = [
        sum(1 << to for to, other in enumerate(tasks) if to != at and (fits(task, other) or fits(other, task)))
        for at, task in enumerate(tasks)
    ]
    return _most_of((1 << len(tasks)) - 1, fitting, 0, 0)


def _most_of(rest, fitting, found, best):
    """The most tasks with those found so far, or the best so far if that is not fewer."""
    # Tasks of one class fit with no other one of it, so that no more can be taken than there are classes.
    ordered, left, many = [], rest, 0
    while left:
        many, free = many + 1, left
        while free:
            at = (free & -free).bit_length() - 1
            ordered.append((at, many))
            left &= ~(1 << at)
            free &= ~(1 << at) & ~fitting[at]
    for at, many in reversed(ordered):
        if found + many <= best:
            return best
        best = _most_of(rest & fitting[at], fitting, found + 1, max(best, found + 1))
        rest &= ~(1 << at)
    return best


def settled(*lines):
    """(f, p): from f on all order lags and outlet lags of the lines come again by p."""
    found = [walks.settled(line, name) for line in lines for name in line.timed]
    period = 1
    for _, one in found:
        period = lcm(period, one)
    return max([start for start, _ in found], default=1), period


def far_enough(*lines):
    """A number behind which no case with one or two tasks is the first one."""
    start, period = settled(*lines)
    return 2 * (start + period) + 2


def least_case(one, other, last, whole=False):
    """The first case, with one or two tasks, in which the one line is later, gone through in the order of cases."""
    left, right = Words(one, last, whole), Words(other, last, whole)
    for number in range(1, last + 1):
        tasks = left.tasks(number)
        for many in (1, 2):
            for case in itertools.combinations(tasks, many):
                if left.end(number, case) > right.end(number, case):
                    return number, case
    return None


def least_near_case(one, other, last, whole=False):
    """Likewise, for far cases: gone through are those with a task of the number 1 alone.

    A case without one comes behind that whose numbers are all less by 1.
    """
    left, right = Words(one, last, whole), Words(other, last, whole)
    firsts = [(name, 1) for name in left.names]
    for number in range(1, last + 1):
        tasks = left.tasks(number)
        pairs = sorted({tuple(sorted(two, key=order)) for two in itertools.product(firsts, tasks) if two[0] != two[1]},
                       key=lambda case: [order(task) for task in case])
        for case in [*[(task,) for task in firsts], *pairs]:
            if left.end(number, case) > right.end(number, case):
                return number, case
    return None


def most_beside(line, names, last):
    """The most tasks of these stations, with numbers up to the last one, of which no two are in sequence."""
    words = Words(line, last)
    tasks = [(name, k) for k in range(1, last + 1) for name in names]
    return most_in_pairs(tasks, lambda one, other: not words.in_sequence(one, other))


def most_times(one, other, last):
    """The most tasks up to the last number of which each two are in sequence in the one line, no two in the other."""
    left, right = Words(one, last), Words(other, last)
    tasks = [task for task in left.tasks(last) if any(left.reaches(task, number) for number in range(1, last + 1))]
    # The last one of tasks in sequence reaches a number that all of them reach.
    return most_in_pairs(tasks, lambda a, b: left.in_sequence(a, b) and not right.in_sequence(a, b))


class Loose:
    """A line by plain values, in which stocks and hands can be above the limits."""

    class Part:
        def __init__(self, **more):
            self.__dict__.update(more)

    def __init__(self, line):
        self.stations = [self.Part(name=s.name, hands=s.hands, timed=s.timed) for s in line.stations]
        self.links = [
            self.Part(source=link.source, target=link.target, stock=link.stock, early=link.early)
            for link in line.links
        ]
        self.names, self.timed, self.outlet = line.names, line.timed, line.outlet

    def __getitem__(self, name):
        return [station for station in self.stations if station.name == name][0]


def with_stock(line, link, stock):
    made = Loose(line)
    made.links[link].stock = stock
    return made


def with_hands(line, name, hands):
    made = Loose(line)
    made[name].hands = hands
    return made


def are_same(one, other):
    last = far_enough(one, other)
    return least_case_is_none(one, other, last) and least_case_is_none(other, one, last)


def least_case_is_none(one, other, last, whole=False):
    """Whether the one line is never later: the words in parentheses of point 15."""
    left, right = Words(one, last, whole), Words(other, last, whole)
    for task in [(name, 1) for name in left.names]:
        for number in range(1, last + 1):
            if left.reaches(task, number) and not right.reaches(task, number):
                return False
    for first, second in itertools.product(left.names, repeat=2):
        for lag in range(last):
            task = (second, 1 + lag)
            if left.before((first, 1), task) and not right.in_sequence((first, 1), task):
                if any(left.reaches(task, number) for number in range(1 + lag, 2 * last)
                       if number - 1 - lag <= last):
                    return False
    return True
