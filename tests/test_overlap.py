"""What can be under way together, held against walks over points and against plays."""

import itertools
import random
import unittest

from owntimes import overlap
from owntimes.errors import InvalidNames, InvalidTasks, NotALine, Stuck
from owntimes.lines import Line, Link, Station
from owntimes.moments import under_way
from owntimes.overlap import may_overlap, most_at_once, overlapping
from tests.drawn import random_free_line, random_times
from tests.test_line_changes import NO_LINES
from tests.words import Words, most_beside, order
from tests.wrong import Odd, raised

A, B, C, D = Station("a"), Station("b", 2), Station("c", None, timed=False), Station("d", None)
CHAIN = Line((A, B), (Link("a", "b"),), "b")
LOOP = Line((B, A, C, D), (Link("a", "b"), Link("b", "a", 3), Link("b", "c", 2), Link("d", "c")), "b")
STUCK = Line((A, B), (Link("a", "b"), Link("b", "a")), "b")


def single(*links, hands=None):
    """A line of stations with equal hands, with links told as (source, target, stock) or with early behind it."""
    names = sorted({name for link in links for name in link[:2]})
    made = [Link(*link[:3], early=len(link) > 3) for link in links]
    return Line(tuple(Station(name, hands) for name in names), tuple(made), names[-1])


def drawn_names(chance, line):
    """Some timed stations, in any order, or None."""
    names = [name for name in line.timed if chance.random() < 0.7]
    chance.shuffle(names)
    return chance.choice((None, tuple(names), tuple(names)))


class MayOverlapTest(unittest.TestCase):
    def by_walks(self, line, tasks):
        last = max([k for _, k in tasks], default=1)
        words = Words(line, last)
        return not any(words.in_sequence(one, other) for one, other in itertools.combinations(tasks, 2))

    def test_all_sets_of_tasks_of_small_lines(self):
        chance, seen = random.Random(71), [0, 0]
        for _ in range(60):
            line = random_free_line(chance, stations=3, links=4, stock=2)
            every = [(name, k) for k in range(1, 4) for name in line.timed]
            words = Words(line, 4)
            for many in range(4):
                for tasks in itertools.combinations(every, many):
                    apart = not any(words.in_sequence(*two) for two in itertools.combinations(tasks, 2))
                    self.assertIs(may_overlap(line, tasks), apart, (str(line), tasks))
                    seen[apart] += 1
        self.assertGreater(min(seen), 500)

    def test_drawn_tasks(self):
        chance = random.Random(72)
        for _ in range(1200):
            line = random_free_line(chance, links=chance.choice((2, 5, 12)))
            every = [(name, k) for name in line.timed for k in range(1, 9)]
            tasks = tuple(chance.sample(every, min(len(every), chance.choice((0, 1, 2, 2, 3, 4, 6)))))
            text = str(line)
            self.assertIs(may_overlap(line, tasks), self.by_walks(line, tasks), (text, tasks))
            self.assertIs(may_overlap(tasks=tasks[::-1], line=line), may_overlap(line, tasks))
            self.assertEqual(str(line), text)

    def test_tasks_that_may_are_under_way_for_some_times(self):
        chance, seen = random.Random(73), 0
        for _ in range(400):
            line = random_free_line(chance, links=6)
            every = [(name, k) for name in line.timed for k in range(1, 7)]
            tasks = tuple(chance.sample(every, min(len(every), chance.randint(1, 5))))
            begun = under_way(line, {task: 1 for task in tasks}, 7, 0)
            if may_overlap(line, tasks):
                self.assertEqual(set(begun), set(tasks), (str(line), tasks))
                seen += len(tasks) > 1
            else:
                self.assertLess(set(begun), set(tasks), (str(line), tasks))
        self.assertGreater(seen, 60)

    def test_what_is_under_way_in_plays_may_be(self):
        chance = random.Random(74)
        for _ in range(200):
            line = random_free_line(chance)
            times = random_times(chance, line, 8, 4)
            for moment in range(6):
                self.assertIs(may_overlap(line, under_way(line, times, 8, moment)), True, (str(line), times))

    def test_great_numbers_and_many_tasks(self):
        far = 10 ** 39
        self.assertIs(may_overlap(LOOP, (("b", far), ("b", far - 1), ("b", far - 2))), False)
        self.assertIs(may_overlap(LOOP, (("b", far), ("b", far - 1))), True)
        self.assertIs(may_overlap(LOOP, (("a", 1), ("d", far))), True)
        self.assertIs(may_overlap(LOOP, (("a", 1), ("b", far))), False)
        self.assertIs(may_overlap(LOOP, tuple(("d", k) for k in range(1, 300))), True)
        self.assertIs(may_overlap(LOOP, (("b", 1), *[("d", k) for k in range(1, 200)], ("a", 1))), False)

    def test_few_tasks(self):
        self.assertIs(may_overlap(LOOP, ()), True)
        self.assertIs(may_overlap(LOOP, (("a", 7),)), True)

    def test_at_one_number_whichever_comes_first(self):
        line = single(("b", "a", 0), ("a", "c", 0))
        for tasks in itertools.permutations((("a", 4), ("b", 4))):
            self.assertIs(may_overlap(line, tasks), False)
        early = single(("b", "a", 0, True), ("a", "c", 0))
        self.assertIs(may_overlap(early, (("a", 4), ("b", 4))), True)
        self.assertIs(may_overlap(early, (("a", 4), ("c", 4))), False)
        self.assertIs(may_overlap(early, (("b", 4), ("c", 4))), True)


class MostTest(unittest.TestCase):
    def check(self, line, names, most):
        text = str(line)
        self.assertEqual(most_at_once(line, names), most, (text, names))
        found = overlapping(line, names)
        if most is None:
            self.assertIsNone(found)
            return
        self.assertEqual((type(found), len(found)), (tuple, most), (text, names))
        self.assertEqual(list(found), sorted(set(found), key=order))
        self.assertLessEqual({name for name, _ in found}, set(line.timed if names is None else names))
        last = max([k for _, k in found], default=1)
        words = Words(line, last)
        for one, other in itertools.combinations(found, 2):
            self.assertFalse(words.in_sequence(one, other), (text, names, found))
        if last <= 1000:
            self.assertEqual(under_way(line, {task: 1 for task in found}, last, 0), found)
        self.assertEqual(str(line), text)

    def test_all_sets_of_tasks_of_small_lines(self):
        chance, seen = random.Random(75), {}
        for _ in range(250):
            line = random_free_line(chance, stations=3, links=6, stock=2, hands=3)
            names = drawn_names(chance, line)
            chosen = line.timed if names is None else names
            # Where a station has no two works in sequence, as many as there are can be under way.
            words = Words(line, 12)
            if any(not any(words.orders[name, name]) for name in chosen):
                self.check(line, names, None)
            else:
                most = most_beside(line, chosen, 7)
                self.check(line, names, most)
                seen[most] = seen.get(most, 0) + 1
        self.assertGreater(len(seen), 5)

    def test_drawn_lines(self):
        chance, seen = random.Random(76), {}
        for _ in range(500):
            line = random_free_line(chance)
            names = drawn_names(chance, line)
            most = most_at_once(line, names)
            self.check(line, names, most)
            seen[most] = seen.get(most, 0) + 1
            if most is not None:
                times = random_times(chance, line, 9, 3)
                for moment in range(0, 12, 2):
                    here = [task for task in under_way(line, times, 9, moment) if names is None or task[0] in names]
                    self.assertLessEqual(len(here), most)
        self.assertGreater(len(seen), 8)

    def test_no_stations(self):
        self.check(LOOP, (), 0)
        self.check(Line((C,), (), "c"), None, 0)
        self.check(Line((C,), (), "c"), (), 0)
        self.assertEqual(overlapping(LOOP, ()), ())

    def test_no_bound(self):
        self.check(LOOP, None, None)
        self.check(LOOP, ("d",), None)
        self.check(LOOP, ("a", "d"), None)
        self.check(LOOP, ("a", "b"), 3)
        self.check(LOOP, ("b", "a"), 3)
        self.check(single(("a", "b", 0)), ("b",), None)

    def test_each_number_of_hands(self):
        for hands in (1, 2, 3, 4):
            self.check(Line((Station("a", hands),), (), "a"), None, hands)
            self.check(Line((Station("a", hands), Station("b", hands)), (Link("a", "b"),), "b"), None, 2 * hands)

    def test_rings(self):
        for stock in range(1, 6):
            self.check(single(("a", "b", 0), ("b", "a", stock)), None, stock)
            self.check(single(("a", "b", 0), ("b", "a", stock)), ("a",), stock)
            self.check(single(("a", "b", stock), ("b", "a", 5)), ("b",), 5 + stock)
            self.check(single(("a", "a", stock)), None, stock)
        # One ring for both or one for each, whichever has less.
        two = [("a", "a", 2), ("b", "b", 1), ("a", "b", 0)]
        self.check(single(*two), None, 3)
        self.check(single(*two, ("b", "a", 2)), None, 2)
        self.check(single(*two, ("b", "a", 4)), None, 3)
        # Two rings share a station, and each is needed.
        self.check(single(("a", "b", 1), ("b", "a", 1), ("b", "c", 2), ("c", "b", 3)), None, 7)
        self.check(single(("a", "b", 1), ("b", "a", 1), ("b", "c", 2), ("c", "b", 3)), ("a", "b"), 2)

    def test_a_ring_that_leaves_early_goes_through_no_work(self):
        self.check(single(("a", "a", 3, True)), None, None)
        self.check(single(("a", "b", 1, True), ("b", "a", 2)), ("b",), 3)
        self.check(single(("a", "b", 1, True), ("b", "a", 2)), None, None)
        # A station that is not timed counts for nothing, and ways lead through it.
        bare = Line((Station("a", None), Station("b", 4, timed=False)), (Link("a", "b"), Link("b", "a", 2)), "b")
        self.check(bare, None, 2)

    def test_greatest(self):
        links = [link for at in range(5) for link in (("m", f"s{at}", 5), (f"s{at}", "m", 5))]
        self.check(single(*links), None, 50)
        self.check(single(*links, ("m", "m", 1)), ("s0", "m", "s4"), 20)
        ring = [(f"s{at}", f"s{(at + 1) % 6}", 5) for at in range(6)]
        self.check(single(*ring), None, 30)

    def test_side_by_side_and_turned(self):
        chance, seen = random.Random(77), 0
        for _ in range(150):
            one = random_free_line(chance, stations=3, links=5)
            other = random_free_line(chance, stations=3, links=5)
            if set(one.names) & set(other.names):
                continue
            alone = most_at_once(one), most_at_once(other)
            self.check(one + other, None, None if None in alone else sum(alone))
            seen += None not in alone
            if not any(link.early for link in one.links):
                self.check(one.turned(), None, alone[0])
        self.assertGreater(seen, 15)

    def test_by_position_and_by_name(self):
        self.assertEqual(most_at_once(names=("b",), line=CHAIN), 2)
        self.assertEqual(len(overlapping(names=("b",), line=CHAIN)), 2)
        self.assertEqual(most_at_once(line=CHAIN), 3)
        for name in ("may_overlap", "most_at_once", "overlapping"):
            self.assertEqual(getattr(overlap, name).__module__, "owntimes.overlap")


class RefusedTest(unittest.TestCase):
    def test_no_lines(self):
        for wrong in NO_LINES:
            self.assertIs(raised(NotALine, may_overlap, wrong, None).given, wrong)
            self.assertIs(raised(NotALine, most_at_once, wrong, 1).given, wrong)
            self.assertIs(raised(NotALine, overlapping, wrong).given, wrong)

    def test_no_tasks(self):
        for wrong in (None, True, 0, "", "a", [], [("a", 1)], {}, {("a", 1)}, object(), Odd(), A):
            self.assertIsNone(raised(InvalidTasks, may_overlap, LOOP, wrong).index)
        good = (("a", 1), ("b", 1), ("a", 2), ("d", 10 ** 39))
        for wrong in (None, "a", ("a",), ["a", 3], ("a", 0), ("a", True), ("c", 1), ("e", 1), ("a", Odd()), Odd()):
            for at in range(5):
                tasks = good[:at] + (wrong,) + good[at:] + (("a", 1),)
                self.assertEqual(raised(InvalidTasks, may_overlap, LOOP, tasks).index, at)
        self.assertEqual(raised(InvalidTasks, may_overlap, LOOP, (*good, ("b", 1), None)).index, 4)

    def test_no_names(self):
        for call in (most_at_once, overlapping):
            for wrong in (True, False, 0, "", "a", b"a", ["a"], [], {}, {"a"}, {"a": 1}, object(), Odd(), A, LOOP):
                self.assertIsNone(raised(InvalidNames, call, LOOP, wrong).index)
                self.assertIsNone(raised(InvalidNames, call, names=wrong, line=LOOP).index)
            for wrong in (None, True, 0, "c", "e", "ab", "A", "", b"a", ("a",), ["a"], {"a": 1}, object(), Odd(), A):
                for at in range(4):
                    names = ("d", "a", "b")[:at] + (wrong,) + ("d", "a", "b")[at:] + ("a", None)
                    self.assertEqual(raised(InvalidNames, call, LOOP, names).index, at)
            self.assertEqual(raised(InvalidNames, call, LOOP, ("a", "b", "a", "c")).index, 2)
            self.assertEqual(raised(InvalidNames, call, LOOP, ("b", "b")).index, 1)

    def test_stuck_is_raised_last(self):
        for call in (most_at_once, overlapping):
            for names in (None, (), ("a",), ("b", "a")):
                self.assertEqual(raised(Stuck, call, STUCK, names).ring, (0, 1))
            self.assertEqual(raised(InvalidNames, call, STUCK, ("c",)).index, 0)
        self.assertEqual(raised(Stuck, may_overlap, STUCK, ()).ring, (0, 1))
        self.assertEqual(raised(InvalidTasks, may_overlap, STUCK, (("c", 1),)).index, 0)


if __name__ == "__main__":
    unittest.main()
