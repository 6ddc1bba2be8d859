"""Chains: tasks of which each two are in sequence in the one line, and no two in the other line.

A chain goes from task to task as the one line orders them, so that no number is less
than the one before it. By how much greater it may be tell the gaps, a row for each two
stations. What can follow all tasks of a chain is told by the numbers of the tasks of
each station, as bits that come again, those of all stations side by side in one
integer. They are counted from the least number that there is, so that what was looked
through once is met again.
"""

from math import lcm

from owntimes.bits import below, bits_of, classes_in, folded, how_many, least_in, settled_at, told_upto
from owntimes.covers import cheapest, closed_ways, way_lag, works_on
from owntimes.nets import loose_row
from owntimes.repeats import least_of


class Chains:
    """The chains of tasks of the stations with these names.

    A group is a pair of an integer and of stations, each as its place among the names and an offset. Of those tasks
    of a group whose number less the offset leaves the same rest by the integer, no chain has two. Each station is in
    a group.
    """

    def __init__(self, names, gaps, groups):
        self._names = names
        self._groups = groups
        self._start = max([start for _, start in gaps.values()], default=0)
        self._period = 1
        for flags, start in gaps.values():
            self._period = lcm(self._period, len(flags) - start)
        # So far is told what can follow. To count it from later numbers, it is told thrice as far and
        # the gaps twice as far, so that the bits of one station never get into those of another one.
        self._many = self._start + self._period
        self._width = 3 * self._many
        self._after = [self._packed([bits_of(gaps[one, other], 2 * self._many) for other in names]) for one in names]
        self._kept = self._packed([below(-1, self._many) for _ in names])
        self._bounds = {}
        self._classes = {}
        self._failed = {}

    def found(self, many):
        """Any chain of so many tasks, at least one, as pairs (number, name) from the number 1 on; None if none is."""
        firsts = [self._next_one(0, place, self._after[place]) for place in range(len(self._names))]
        chain = self._through(firsts, many)
        return None if chain is None else [(number + 1, self._names[place]) for number, place in chain]

    def _through(self, nexts, many):
        """A chain of so many tasks that begins with one of these, as pairs (number, place); None if there is none."""
        for bound, number, place, ahead, after in sorted(nexts, key=lambda new: -new[0]):
            if 1 + bound < many:
                return None
            chain = self._within(after, many - 1)
            if chain is not None:
                return [(number, place)] + [(number + ahead + later, at) for later, at in chain]
        return None

    def _within(self, rest, many):
        """A chain of so many tasks that can follow, as pairs (number, place); None if there is none."""
        if many == 0:
            return []
        if self._bound(rest) < many or many >= self._failed.get(rest, many + 1):
            return None
        chain = self._through(self._nexts_in(rest), many)
        if chain is None:
            self._failed[rest] = many
        return chain

    def _nexts_in(self, rest):
        """What can come next; of those that leave the same to follow only the first."""
        parts = self._parts(rest)
        # What comes later than this can come a period earlier, with all that is behind it.
        last = self._period + max([settled_at(bits, self._start, self._period) for bits in parts])
        far = self._packed([told_upto(bits, self._start, self._period, self._width) for bits in parts])
        found = {}
        for number in range(last):
            for place, bits in enumerate(parts):
                if bits >> number & 1:
                    new = self._next_one(number, place, far >> number & self._after[place])
                    found.setdefault(new[-1], new)
        return list(found.values())

    def _next_one(self, number, place, left):
        """A next task, behind the bound of what can follow it and before how far on this is counted from, and this."""
        ahead = least_in(folded(left, self._width)) if left else 0
        after = left >> ahead & self._kept
        return self._bound(after), number, place, ahead, after

    def _bound(self, rest):
        """As many tasks as no chain of what can follow exceeds."""
        if rest not in self._bounds:
            parts = self._parts(rest)
            costs = [self._cost(parts, many, members) for many, members in self._groups]
            todo = sum([1 << place for place, bits in enumerate(parts) if bits])
            self._bounds[rest], _ = cheapest(todo, costs, {})
        return self._bounds[rest]

    def _cost(self, parts, many, members):
        """The stations of a group of which something can follow, and how many different rests by its integer."""
        mask, found = 0, 0
        for place, offset in members:
            if parts[place]:
                classes = self._classes_of(parts[place], many)
                mask = mask | (1 << place)
                found = found | (classes >> offset) | below(classes << (many - offset), many)
        return mask, how_many(found)

    def _classes_of(self, bits, many):
        """The rests by this integer that numbers of a station leave."""
        if (bits, many) not in self._classes:
            self._classes[bits, many] = classes_in(bits, self._start, self._period, many)
        return self._classes[bits, many]

    def _packed(self, parts):
        """The bits of all stations side by side."""
        return sum([bits << (self._width * place) for place, bits in enumerate(parts)])

    def _parts(self, rest):
        """The bits of each station, as far as it is told what can follow."""
        return [below(rest >> (self._width * place), self._many) for place in range(len(self._names))]


def chains_in(other, left, right, names):
    """The chains of tasks of these stations, from the net of the one line and the net of the other line, and this one.

    If a station has works that are in sequence in the one line, it has such works in the other line.
    """
    gaps = {(first, second): loose_row(left, right, first, second) for first in names for second in names}
    groups = {}
    for way in closed_ways(other):
        lag = way_lag(other, way)
        # Each task that a closed way goes through is before the next one in it, all the way round.
        members = [(names.index(name), far % lag) for name, far in works_on(other, way) if name in names]
        groups[lag, tuple(members)] = True
    for place, name in enumerate(names):
        if least_of(gaps[name, name]) is None:
            groups[1, ((place, 0),)] = True
    return Chains(names, gaps, list(groups))
