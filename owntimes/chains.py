"""Chains: tasks of which each two are in sequence in the one line, and no two in the other line.

A chain goes from task to task as the one line orders them, so that no number is less
than the one before it. By how much greater it may be tell the gaps, a row for each two
stations. A task is written down as an integer, its number times the number of stations
and the place of its station; sets of tasks are bits that come again. What can follow
all tasks of a chain is counted from the least number in it, so that what was looked
through once is met again.
"""

from math import lcm

from owntimes.bits import below, bits_with, classes_in, folded, least_in, members_of, settled_at, told_upto
from owntimes.covers import cheapest, closed_ways, way_lag, works_on
from owntimes.nets import loose_row
from owntimes.repeats import flag_at, least_of


class Chains:
    """The chains of tasks of the stations with these names.

    A group is a pair of an integer and of stations, each as its place among the names and an offset. Of those tasks
    of a group whose number less the offset leaves the same rest by the integer, no chain has two. Each station is in
    a group.
    """

    def __init__(self, names, gaps, groups):
        period = 1
        for flags, start in gaps.values():
            period = lcm(period, len(flags) - start)
        self._names = names
        self._step = len(names)
        self._start = self._step * max([start for _, start in gaps.values()], default=0)
        self._period = self._step * period
        # What can follow is told up to here. As it is counted from later tasks and from what can follow these, it
        # is told thrice as far for this, and the gaps twice as far.
        self._many = self._start + self._period
        self._after = [self._tasks_after(gaps, name) for name in names]
        self._groups = [self._classes_of(number, members) for number, members in groups]
        self._bounds = {}
        self._failed = {}

    def found(self, many):
        """Any chain of so many tasks, at least one, as pairs (number, name) from the number 1 on; None if none is."""
        chain = self._through([self._next_one(place, self._after[place]) for place in range(self._step)], many)
        return None if chain is None else [(task // self._step + 1, self._names[task % self._step]) for task in chain]

    def _through(self, nexts, many):
        """A chain of so many tasks that begins with one of these; None if there is none."""
        for bound, task, ahead, after in sorted(nexts, key=_bound_of, reverse=True):
            if 1 + bound < many:
                return None
            chain = self._within(after, many - 1)
            if chain is not None:
                return [task] + [self._number_of(task) + ahead + later for later in chain]
        return None

    def _within(self, rest, many):
        """A chain of so many tasks that can follow; None if there is none."""
        if many == 0:
            return []
        if self._bound(rest) < many or many >= self._failed.get(rest, many + 1):
            return None
        chain = self._through(self._nexts_in(rest), many)
        if chain is None:
            self._failed[rest] = many
        return chain

    def _nexts_in(self, rest):
        """What can come next; of tasks that leave the same to follow only the first."""
        # What comes later than a period behind this can come a period earlier, with all that is behind it.
        settled = self._number_of(settled_at(rest, self._start, self._period) + self._step - 1)
        far = told_upto(rest, self._start, self._period, 3 * self._many)
        found = {}
        for task in members_of(below(far, settled + self._period)):
            new = self._next_one(task, far >> self._number_of(task) & self._after[task % self._step])
            found.setdefault(new[-1], new)
        return list(found.values())

    def _next_one(self, task, left):
        """A next task, behind the bound of what can follow it and before how far on this is counted from, and this."""
        ahead = self._number_of(least_in(left)) if left else 0
        after = below(left >> ahead, self._many)
        return self._bound(after), task, ahead, after

    def _bound(self, rest):
        """As many tasks as no chain of what can follow exceeds."""
        if rest not in self._bounds:
            found, costs = {}, []
            for number, places, classes in self._groups:
                if number not in found:
                    found[number] = classes_in(rest, self._start, self._period, number)
                costs.append((places, len([bits for bits in classes if bits & found[number]])))
            self._bounds[rest], _ = cheapest(folded(rest, self._step), costs, {})
        return self._bounds[rest]

    def _tasks_after(self, gaps, name):
        """The tasks that can follow the task of this station at 0, as far as they are needed."""
        return bits_with([
            self._step * number + place for place, other in enumerate(self._names)
            for number in range(2 * self._many // self._step) if flag_at(gaps[name, other], number)
        ])

    def _classes_of(self, number, members):
        """The integer of a group, counted as tasks are, its stations as bits, and for each rest by it the tasks."""
        classes = [
            bits_with([self._step * ((rest + offset) % number) + place for place, offset in members])
            for rest in range(number)
        ]
        return self._step * number, bits_with([place for place, _ in members]), classes

    def _number_of(self, task):
        """The first one of the tasks with the number of this one."""
        return task - task % self._step


def _bound_of(new):
    """The bound of what can follow a next task."""
    return new[0]


def chains_in(other, left, right, names):
    """The chains of tasks of these stations, from the net of the one line and the net of the other line, and this one.

    If a station has works that are in sequence in the one line, it has such works in the other line.
    """
    gaps = {(first, second): loose_row(left, right, first, second) for first in names for second in names}
    groups = {}
    for way in closed_ways(other):
        lag = way_lag(other, way)
        # Each task that a closed way goes through is before the next one in it, all the way round.
        members = [(names.index(name), far % lag) for name, far in works_on(other, way) if name in names]
        if members:
            groups[lag, tuple(members)] = True
    for place, name in enumerate(names):
        if least_of(gaps[name, name]) is None:
            groups[1, ((place, 0),)] = True
    return Chains(names, gaps, list(groups))
