"""Factors, cases beyond a bound and head starts, held against sets of tasks and against plays."""

import random
import unittest

from owntimes import factors
from owntimes.comparing import later_case, never_later, times_of
from owntimes.errors import InvalidNumber, NotALine, Stuck
from owntimes.factors import beyond, factor, head_start
from owntimes.lines import Line, Link, Station
from owntimes.moments import end
from tests.drawn import changed_line, joined, random_free_line, random_pair, random_times, wide_pair
from tests.test_line_changes import NO_LINES
from tests.words import Words, far_enough, most_times, order, settled
from tests.wrong import NO_INTEGERS, Odd, raised

CHAIN = Line((Station("a"), Station("b")), (Link("a", "b"),), "b")
SINGLE = CHAIN.with_link(Link("b", "a", 1))
DELAYED = Line((*CHAIN.stations, Station("c", timed=False)), (Link("a", "b"), Link("b", "c", 2)), "c")
STUCK = CHAIN.with_link(Link("b", "a"))
STUCK_TOO = Line((Station("a"), Station("b")), (Link("b", "b"), Link("a", "a")), "b")
NO_BOUNDS = (*NO_INTEGERS, Odd(), -1, 21, 10 ** 39, -(10 ** 39), CHAIN)


def free(names, *links, outlet=None, hands=None):
    """A line of stations without a limit on hands, with links told as (source, target, stock)."""
    made = tuple(Link(*link) for link in links)
    return Line(tuple(Station(name, hands) for name in names), made, outlet or names[-1])


def near_pair(chance, stations=3, links=4, stock=2):
    """Two lines with the same stations; mostly all tasks reach all numbers from their own on."""
    while True:
        one, other = random_pair(chance, stations, links, stock)
        if one.names == other.names and chance.random() < 0.8:
            return joined(one), joined(other)
        if chance.random() < 0.3:
            return one, other


class Held(unittest.TestCase):
    def check(self, one, other, most):
        texts = str(one), str(other)
        self.assertEqual(factor(one, other), most, texts)
        bounds = range(21) if most is None else {0, 1, 20, *range(max(0, most - 2), min(21, most + 2))}
        for bound in bounds:
            self.check_beyond(one, other, bound, most)
        self.assertEqual((str(one), str(other)), texts)

    def check_beyond(self, one, other, bound, most):
        case = beyond(one, other, bound)
        if most is not None and bound >= most:
            self.assertIsNone(case, (str(one), str(other), bound))
            return
        number, tasks = case
        self.assertEqual((type(case), type(tasks)), (tuple, tuple))
        self.assertEqual(list(tasks), sorted(set(tasks), key=order))
        self.assertLessEqual(number, 1000)
        times = times_of(case)
        self.assertGreater(end(one, times, number), bound * end(other, times, number), (str(one), str(other), case))


class FactorTest(Held):
    def by_sets(self, one, other, most, last):
        """The most tasks of a set that shows the factor, if there is one and the numbers go far enough."""
        found = most_times(one, other, last)
        if most is None:
            return
        self.assertLessEqual(found, most, (str(one), str(other)))
        start, period = settled(one, other)
        if (start + period) * max(1, most - 1) < last:
            self.assertEqual(found, most, (str(one), str(other)))

    def test_all_sets_of_tasks_of_small_lines(self):
        chance, seen = random.Random(91), {}
        for _ in range(260):
            one, other = near_pair(chance)
            most = factor(one, other)
            self.check(one, other, most)
            start, period = settled(one, other)
            if most is not None and start + period <= 9 and len(one.timed) <= 3:
                last = min(16, (start + period) * max(1, most - 1) + 1)
                self.by_sets(one, other, most, last)
                if (start + period) * max(1, most - 1) < last:
                    seen[most] = seen.get(most, 0) + 1
        self.assertGreater(len(seen), 3, seen)
        self.assertGreater(min(seen[most] for most in (0, 1, 2)), 5, seen)

    def test_near_sets_of_tasks(self):
        chance, seen = random.Random(92), {}
        for _ in range(200):
            one, other = near_pair(chance, stations=4, links=6, stock=5)
            most = factor(one, other)
            if most is not None:
                found = most_times(one, other, 5)
                self.assertLessEqual(found, most, (str(one), str(other)))
                seen[most - found] = seen.get(most - found, 0) + 1
        self.assertGreater(seen[0], 60, seen)

    def test_wide_lines(self):
        """Great factors: reached by plays of cases, and not exceeded by any set of tasks with small numbers."""
        chance, seen, reached = random.Random(98), {}, 0
        for _ in range(160):
            one, other = wide_pair(chance)
            most = factor(one, other)
            self.check(one, other, most)
            seen[most] = seen.get(most, 0) + 1
            if most is not None:
                found = most_times(one, other, chance.randint(4, 9))
                self.assertLessEqual(found, most, (str(one), str(other)))
                reached += found == most > 2
        self.assertGreater(len(seen), 8, seen)
        self.assertGreater(reached, 20)

    def test_drawn_lines_and_plays(self):
        chance, seen = random.Random(93), {}
        for _ in range(500):
            one, other = random_pair(chance)
            if chance.random() < 0.7:
                one, other = near_pair(chance, stations=5, links=7, stock=5)
            most = factor(one, other)
            self.check(one, other, most)
            seen[most] = seen.get(most, 0) + 1
            if most is None:
                continue
            for least in (1, 4, 10 ** 20):
                number = chance.randint(1, 14)
                times = random_times(chance, one, number, least, chance.choice((0.1, 0.3, 0.7)))
                self.assertLessEqual(end(one, times, number), most * end(other, times, number))
        self.assertGreater(len(seen), 5, seen)

    def test_at_most_1_exactly_if_never_later(self):
        chance, seen = random.Random(94), [0, 0]
        for _ in range(400):
            one, other = near_pair(chance, stations=4, links=6, stock=4)
            most = factor(one, other)
            self.assertIs(most is not None and most <= 1, never_later(one, other), (str(one), str(other)))
            seen[never_later(one, other)] += 1
            if most == 0:
                self.assertEqual(Words(one, 40).outlets.keys(), set(one.timed))
                self.assertFalse(any(any(flags) for flags in Words(one, 40).outlets.values()))
        self.assertGreater(min(seen), 40)

    def test_0(self):
        gate = Line((Station("gate", timed=False), Station("a")), (), "gate")
        for other in (gate, CHAIN, DELAYED, SINGLE.with_hands("a", None)):
            self.check(gate, other, 0)
        self.check(CHAIN, gate, None)

    def test_none(self):
        self.check(CHAIN, CHAIN.with_hands("b", None), None)
        self.check(CHAIN, CHAIN.without(0), None)
        self.check(CHAIN, DELAYED, None)
        self.check(joined(CHAIN), joined(CHAIN.with_hands("b", None)), None)
        self.check(joined(CHAIN.with_hands("a", 4)), joined(CHAIN.with_hands("a", None)), None)
        self.check(Line((Station("x"),), (), "x"), CHAIN, None)
        ring = free("ab", ("a", "b", 5), ("b", "a", 5))
        self.check(joined(ring), joined(ring.without(0)), None)

    def test_hands(self):
        for hands in (1, 2, 3, 4):
            for more in (1, 2, 3, 4):
                one, other = joined(free("a", hands=hands)), joined(free("a", hands=more))
                # Of the works of one hand of the one line, as many as are not of one hand of the other one.
                most = len({hands * at % more for at in range(12)})
                self.check(one, other, most)

    def test_as_many_as_can_be_under_way(self):
        # In the one line one work follows another; in the other one all stations work by themselves.
        names = "abcde"
        ring = [(names[at], names[(at + 1) % 5], at // 4) for at in range(5)]
        one = joined(free(names, *ring))
        for hands in (1, 2, 3, 4):
            self.check(one, joined(free(names, hands=hands)), 5 * hands)
        loops = [(name, name, 5) for name in names]
        self.check(one, joined(free(names, *loops)), 25)
        self.check(one, joined(free(names, *loops[:4], ("a", "b", 0), ("e", "e", 3))), 23)
        self.check(joined(free(names, *loops)), joined(free(names, *loops)), 1)
        self.check(joined(free(names)), joined(free(names, *loops)), 1)

    def test_a_ring_by_steps(self):
        # Thirty classes in the other line; two hands go through every second one of them.
        names = "abcde"
        ring = [(names[at], names[(at + 1) % 5], 5) for at in range(5)]
        other = joined(free(names, *ring))
        for hands, most in ((1, 25), (2, 25), (None, 1)):
            self.check(joined(free(names, *ring, hands=hands)), other, most)
        even = [(names[at], names[(at + 1) % 5], 4) for at in range(5)]
        self.check(joined(free(names, *even, hands=2)), joined(free(names, *even)), 10)
        self.check(joined(free(names, *even, hands=1)), joined(free(names, *even)), 20)
        self.check(joined(free(names, *even, hands=4)), joined(free(names, *even)), 5)

    def test_tasks_far_apart(self):
        # Only lags of 29 and 30 are in sequence in the one line; those of 5 are in sequence in the other one.
        names = [f"s{at}" for at in range(5)]
        ring = [(names[at], names[(at + 1) % 5], 5) for at in range(5)]
        one = joined(free(names, *ring, ("s0", "s1", 4)))
        self.check(one, joined(free(names, *[(name, name, 5) for name in names])), 25)
        self.check(one, joined(free(names, *[(name, name, 4) for name in names])), 20)
        self.check(one, joined(free(names, *ring)), 25)
        self.check(joined(free(names, *ring)), one, 1)


class BeyondTest(Held):
    def test_each_bound(self):
        chance, seen = random.Random(95), 0
        for _ in range(60):
            one, other = near_pair(chance, stations=4, links=6, stock=5)
            most = factor(one, other)
            for bound in range(21):
                self.check_beyond(one, other, bound, most)
            seen += most is None or most > 2
        self.assertGreater(seen, 2)

    def test_at_the_factor_and_below_it(self):
        names = "abcde"
        ring = [(names[at], names[(at + 1) % 5], at // 4) for at in range(5)]
        one = joined(free(names, *ring))
        for hands, most in ((1, 5), (3, 15), (4, 20)):
            other = joined(free(names, hands=hands))
            self.assertIsNone(beyond(one, other, most))
            self.assertIsNotNone(beyond(one, other, most - 1))
            self.assertEqual(len(beyond(one, other, most - 1)[1]), most)

    def test_bound_0(self):
        self.assertEqual(beyond(CHAIN, CHAIN, 0), (1, (("a", 1),)))
        self.assertIsNone(beyond(Line((Station("q", timed=False),), (), "q"), CHAIN, 0))


class HeadStartTest(unittest.TestCase):
    def does(self, one, other, start, last):
        """Whether the ends at n are at most those at n + start: by all tasks and pairs with small numbers."""
        left, right = Words(one, last), Words(other, last)
        for name in left.names:
            for number in range(1, last - start + 1):
                if left.reaches((name, 1), number) and not right.reaches((name, 1), number + start):
                    return False
        return True

    def pairs_do(self, one, other, last):
        left, right = Words(one, last), Words(other, last)
        return not any(
            left.before((first, 1), (second, 1 + lag)) and any(left.outlets[second])
            and not right.in_sequence((first, 1), (second, 1 + lag))
            for first in left.names for second in left.names for lag in range(last)
        )

    def test_held_against_words(self):
        chance, seen = random.Random(96), {}
        for _ in range(300):
            one, other = random_pair(chance, stations=3, links=5, stock=4)
            if chance.random() < 0.6:
                other = self.delayed(chance, other)
            found, last = head_start(one, other), 2 * far_enough(one, other)
            starts = range(last // 2)
            does = [start for start in starts if self.does(one, other, start, last)]
            expected = does[0] if does and self.pairs_do(one, other, last // 2) else None
            self.assertEqual(found, expected, (str(one), str(other)))
            seen[found] = seen.get(found, 0) + 1
        self.assertGreater(len(seen), 4, seen)
        self.assertGreater(seen[None], 30)

    def delayed(self, chance, line):
        """The line with an outlet behind its own, some numbers later."""
        out = Station("late", None, timed=False)
        return Line((*line.stations, out), (*line.links, Link(line.outlet, "late", chance.randint(0, 5))), "late")

    def test_held_against_plays(self):
        chance, seen = random.Random(97), 0
        for _ in range(400):
            one = random_free_line(chance, stations=5, links=9)
            other = changed_line(chance, one, chance.randint(0, 2))
            if chance.random() < 0.7:
                other = self.delayed(chance, other)
            start, text = head_start(one, other), (str(one), str(other))
            self.assertEqual(start == 0, never_later(one, other))
            if start is None:
                continue
            for most in (1, 5, 10 ** 20):
                number = chance.randint(1, 10)
                times = random_times(chance, one, number + start, most, 0.4)
                self.assertLessEqual(end(one, times, number), end(other, times, number + start), text)
            seen += start > 0
            if start > 0:
                # One number less does not do: a task shows it.
                self.assertTrue(self.shown(one, other, start - 1), text)
            self.assertEqual((str(one), str(other)), text)
        self.assertGreater(seen, 40)

    def shown(self, one, other, start):
        """Whether the end at some number, in some case with one task, is not reached with this head start."""
        for number in range(1, 60):
            for name in one.timed:
                times = {(name, 1): 1}
                if end(one, times, number) > end(other, times, number + start):
                    return True
        return False

    def test_delays(self):
        self.assertEqual([head_start(CHAIN, DELAYED), head_start(DELAYED, CHAIN)], [2, 0])
        for stock in range(6):
            for more in range(6):
                one, other = DELAYED.with_stock(1, stock), DELAYED.with_stock(1, more)
                self.assertEqual(head_start(one, other), max(0, more - stock))

    def test_a_greater_head_start_that_does_not_do(self):
        # All tasks reach each second number, from their own on or from the next one on.
        names = ("a", "z")
        stations = (Station("a", None), Station("z", 2, timed=False))
        one = Line(stations, (Link("a", "z"),), "z")
        other = Line(stations, (Link("a", "z", 3),), "z")
        self.assertEqual((names, head_start(one, other), head_start(other, one)), (("a", "z"), 3, 1))
        times = {("a", 2): 1}
        self.assertGreater(end(one, times, 2), end(other, times, 6))
        self.assertEqual(head_start(one, Line(stations, (Link("a", "z", 4),), "z")), 4)

    def test_none(self):
        self.assertIsNone(head_start(SINGLE, CHAIN))
        self.assertIsNone(head_start(CHAIN, CHAIN.with_hands("b", None)))
        self.assertIsNone(head_start(CHAIN, Line((Station("x"),), (), "x")))
        self.assertIsNone(head_start(joined(CHAIN), joined(CHAIN.with_hands("a", 2))))
        single = Line((Station("a", None), Station("z", timed=False)), (Link("a", "z"),), "z")
        self.assertIsNone(head_start(single, single.with_hands("z", 2)))

    def test_0(self):
        gate = Line((Station("gate", timed=False), Station("a")), (), "gate")
        self.assertEqual([head_start(gate, CHAIN), head_start(gate, gate), head_start(CHAIN, CHAIN)], [0, 0, 0])
        self.assertIsNone(head_start(CHAIN, gate))

    def test_a_late_head_start(self):
        # The works of a reach all numbers in the one line; in the other one all from 812 on, but not 811.
        names = [f"s{at}" for at in range(6)]
        ring = [Link(names[at], names[(at + 1) % 6], 5) for at in range(6)]
        late = Line(
            tuple(Station(name, None, timed=name == "s0") for name in names), (*ring, Link("s0", "s1", 4)), "s0",
        )
        one = Line((Station("s0", None), Station("z", timed=False)), (Link("s0", "z"),), "z")
        self.assertEqual(head_start(one, late), 812)
        self.assertIsNone(head_start(late, one))


class RefusedTest(unittest.TestCase):
    def test_by_position_and_by_name(self):
        self.assertEqual(factor(other=CHAIN, one=SINGLE), 2)
        self.assertEqual(head_start(other=DELAYED, one=CHAIN), 2)
        self.assertIsNone(beyond(bound=2, other=CHAIN, one=SINGLE))
        self.assertEqual(len(beyond(bound=1, other=CHAIN, one=SINGLE)[1]), 2)
        self.assertEqual(beyond(SINGLE, CHAIN, 1)[0], later_case(SINGLE, CHAIN)[0])
        for name in ("factor", "beyond", "head_start"):
            self.assertEqual(getattr(factors, name).__module__, "owntimes.factors")

    def test_wrong_arguments_in_their_order(self):
        for wrong in NO_LINES:
            for call, rest in ((factor, ()), (beyond, (None,)), (head_start, ())):
                self.assertIs(raised(NotALine, call, wrong, None, *rest).given, wrong)
                self.assertIs(raised(NotALine, call, STUCK, wrong, *rest).given, wrong)
        for wrong in NO_BOUNDS:
            self.assertIs(raised(InvalidNumber, beyond, STUCK, STUCK, wrong).given, wrong)
            self.assertIs(raised(InvalidNumber, beyond, bound=wrong, other=CHAIN, one=CHAIN).given, wrong)

    def test_stuck_is_raised_last(self):
        for call, rest in ((factor, ()), (beyond, (1,)), (head_start, ())):
            self.assertEqual(raised(Stuck, call, STUCK, CHAIN, *rest).ring, (0, 1))
            self.assertEqual(raised(Stuck, call, CHAIN, STUCK_TOO, *rest).ring, (0,))
            self.assertEqual(raised(Stuck, call, STUCK, STUCK_TOO, *rest).ring, (0, 1))
            self.assertEqual(raised(Stuck, call, STUCK_TOO, STUCK_TOO, *rest).ring, (0,))


if __name__ == "__main__":
    unittest.main()
