"""Moments for given times, held against plays by the words of point 7."""

import random
import types
import unittest

from owntimes import moments as module
from owntimes.errors import InvalidNumber, InvalidTimes, NotALine
from owntimes.lines import Line, Link, Station
from owntimes.moments import end, events, moments, under_way, whole_end
from tests import walks
from tests.drawn import random_free_line, random_times
from tests.test_line_changes import NO_LINES
from tests.test_stations import NO_NAMES
from tests.wrong import NO_INTEGERS, Odd, raised

A, B = Station("a"), Station("b", 2)
CHAIN = Line((A, B), (Link("a", "b"),), "b")
LOOP = Line((A, B, Station("c", None, timed=False)), (Link("a", "b"), Link("b", "a", 3), Link("b", "c", 2)), "c")
NO_NUMBERS = (*NO_INTEGERS, Odd(), 0, -1, 1001, 10 ** 39, -(10 ** 39), A, CHAIN)
NO_TIMES = (
    None, True, 0, "", "a", (), ((("a", 1), 2),), [], [("a", 1)], {("a", 1)}, object(), dict, Odd(), A, CHAIN,
    {"a": 1}, {1: 1}, {(): 1}, {("a",): 1}, {("a", 1, 1): 1}, {("a", 0): 1}, {("a", -1): 1}, {("a", True): 1},
    {("a", "1"): 1}, {("a", None): 1}, {("a", (1,)): 1}, {(1, "a"): 1}, {("A", 1): 1}, {("", 1): 1}, {(None, 1): 1},
    {("abcdefghi", 1): 1}, {(b"a", 1): 1}, {(("a",), 1): 1}, {(Odd(), 1): 1}, {("a", Odd()): 1}, {None: 1}, {Odd(): 1},
    {("a", 1): -1}, {("a", 1): True}, {("a", 1): False}, {("a", 1): None}, {("a", 1): "1"}, {("a", 1): (1,)},
    {("a", 1): [1]}, {("a", 1): Odd()}, {("a", 1): -(10 ** 39)}, {("a", 1): {}},
    {("a", 1): 1, ("b", 1): 2, ("b", 0): 1}, {("a", 1): 1, ("b", 1): 2, ("c", 5): None}, {("a", 1): 1, "b": 1},
    {("nobody", 1): -1}, {("c", 10 ** 39): True},
)


def all_events(*rest):
    return list(events(*rest))


class HeldAgainstPlays(unittest.TestCase):
    def check(self, line, times, number, play=walks.played_by_numbers):
        words, kept = str(line), dict(times)
        begins, ends = play(line, times, number)
        works = range(1, number + 1)
        self.assertEqual(moments(line, times, number), tuple(
            (tuple(begins[name, k] for k in works), tuple(ends[name, k] for k in works)) for name in line.names
        ))
        self.assertEqual(end(line, times, number), ends[line.outlet, number])
        self.assertEqual(whole_end(line, times, number), max(ends.values()))
        told = [(moment, k, name, "begin") for (name, k), moment in begins.items()]
        told += [(moment, k, name, "end") for (name, k), moment in ends.items()]
        self.assertEqual(all_events(line, times, number), sorted(told))
        self.check_under_way(line, times, number, begins, ends)
        self.assertEqual((str(line), times), (words, kept))

    def check_under_way(self, line, times, number, begins, ends):
        seen = sorted({*begins.values(), *ends.values()})
        for moment in {0, 10 ** 39, *seen[:40], *seen[-3:], *[at + 1 for at in seen[:10]]}:
            tasks = [
                (k, name) for (name, k), begin in begins.items()
                if line[name].timed and begin <= moment < ends[name, k]
            ]
            found = under_way(line, times, number, moment)
            self.assertEqual(found, tuple((name, k) for k, name in sorted(tasks)))


class MomentsTest(HeldAgainstPlays):
    def test_moment_by_moment(self):
        chance = random.Random(51)
        for _ in range(250):
            line = random_free_line(chance, stations=4, links=8)
            number = chance.randint(1, 7)
            self.check(line, random_times(chance, line, number + 2, 4), number, walks.played_by_moments)

    def test_drawn_lines(self):
        chance = random.Random(52)
        for _ in range(250):
            line = random_free_line(chance)
            number = chance.randint(1, 15)
            times = random_times(chance, line, number, chance.choice((0, 1, 3, 50)), chance.random())
            self.check(line, times, number)

    def test_great_times(self):
        chance = random.Random(53)
        for _ in range(40):
            line = random_free_line(chance)
            self.check(line, random_times(chance, line, 9, 10 ** 39), 9)

    def test_great_numbers(self):
        chance = random.Random(54)
        for number in (997, 998, 999, 1000, 1000):
            line = random_free_line(chance)
            self.check(line, random_times(chance, line, number, 9), number)

    def test_times_not_given(self):
        for line in (CHAIN, LOOP):
            self.check(line, {}, 12)
            self.assertEqual(whole_end(line, {}, 1000), 0)
        self.check(LOOP, {("b", 4): 2}, 12)
        self.check(LOOP, {("a", 1): 0, ("b", 1): 0}, 3)

    def test_times_of_other_tasks_do_not_matter(self):
        times = {("a", 1): 2, ("b", 2): 1}
        more = {**times, ("c", 1): 9, ("c", 3): 9, ("d", 1): 9, ("a", 13): 9, ("abcdefgh", 10 ** 39): 10 ** 39}
        self.assertEqual(moments(LOOP, times, 12), moments(LOOP, more, 12))
        self.assertEqual(end(LOOP, times, 12), end(LOOP, more, 12))
        self.check(LOOP, more, 12)

    def test_a_work_does_not_stand_in_for_another_one(self):
        # The second work of b ends long before the first one; c waits for the first one all the same.
        line = Line((Station("b", None), Station("c", None)), (Link("b", "c"),), "c")
        times = {("b", 1): 9, ("b", 2): 1, ("c", 1): 1, ("c", 2): 1}
        self.assertEqual(moments(line, times, 2), (((0, 0), (9, 1)), ((9, 1), (10, 2))))
        self.assertEqual((end(line, times, 2), whole_end(line, times, 2)), (2, 10))
        self.assertEqual(under_way(line, times, 2, 1), (("b", 1), ("c", 2)))

    def test_hands_take_the_works_in_turn(self):
        line = Line((Station("a", 2),), (), "a")
        times = {("a", 1): 9, ("a", 2): 1, ("a", 3): 1, ("a", 4): 1}
        self.assertEqual(moments(line, times, 4), (((0, 0, 9, 1), (9, 1, 10, 2)),))
        self.assertEqual((end(line, times, 4), whole_end(line, times, 4)), (2, 10))

    def test_early_links(self):
        line = Line((Station("a"), Station("b")), (Link("a", "b", early=True), Link("b", "a", 1, early=True)), "b")
        times = {("a", 1): 5, ("b", 1): 2, ("a", 2): 1, ("b", 2): 7}
        self.assertEqual(moments(line, times, 2), (((0, 5), (5, 6)), ((0, 5), (2, 12))))
        self.check(line, times, 6)

    def test_stock_against_number(self):
        for stock in range(6):
            line = Line((Station("a", None), Station("b", None)), (Link("a", "b", stock),), "b")
            begins = moments(line, {("a", 1): 7}, 8)[1][0]
            self.assertEqual(begins, tuple(7 if k == stock + 1 else 0 for k in range(1, 9)))

    def test_by_position_and_by_name(self):
        times = {("a", 1): 3, ("b", 1): 4}
        self.assertEqual(moments(number=2, times=times, line=CHAIN), moments(CHAIN, times, 2))
        self.assertEqual(end(number=1, times=times, line=CHAIN), 7)
        self.assertEqual(whole_end(number=1, times=times, line=CHAIN), 7)
        self.assertEqual(list(events(number=1, times=times, line=CHAIN)), all_events(CHAIN, times, 1))
        self.assertEqual(under_way(moment=3, number=1, times=times, line=CHAIN), (("b", 1),))

    def test_kinds_of_values(self):
        found = moments(CHAIN, {("a", 1): 3}, 2)
        self.assertEqual((type(found), {type(row) for row in found}), (tuple, {tuple}))
        self.assertEqual({type(part) for row in found for part in row}, {tuple})
        self.assertIsInstance(events(CHAIN, {}, 1), types.GeneratorType)
        self.assertIs(type(under_way(CHAIN, {}, 1, 0)), tuple)
        for name in ("moments", "end", "whole_end", "events", "under_way"):
            self.assertEqual(getattr(module, name).__module__, "owntimes.moments")


class UnderWayTest(unittest.TestCase):
    def test_bounds_of_a_work(self):
        times = {("a", 1): 3, ("b", 1): 4, ("a", 2): 1, ("b", 2): 2}
        found = [under_way(CHAIN, times, 2, moment) for moment in range(10)]
        self.assertEqual(found[0], (("a", 1),))
        self.assertEqual(found[2], (("a", 1),))
        self.assertEqual(found[3], (("b", 1), ("a", 2)))
        self.assertEqual(found[4], (("b", 1), ("b", 2)))
        self.assertEqual((found[6], found[7], found[9]), ((("b", 1),), (), ()))
        self.assertEqual(under_way(CHAIN, times, 1, 3), (("b", 1),))

    def test_works_without_time(self):
        for moment in (0, 1, 10 ** 39):
            self.assertEqual(under_way(LOOP, {("c", 1): 5}, 9, moment), ())

    def test_a_great_moment(self):
        times = {("a", 1): 10 ** 39, ("b", 1): 10 ** 39 - 1}
        self.assertEqual(under_way(CHAIN, times, 2, 10 ** 39 - 1), (("a", 1),))
        self.assertEqual(under_way(CHAIN, times, 2, 10 ** 39), (("b", 1),))


class RefusedTest(unittest.TestCase):
    CALLS = (moments, end, whole_end, all_events)

    def test_no_lines(self):
        for wrong in NO_LINES:
            for call in self.CALLS:
                self.assertIs(raised(NotALine, call, wrong, {}, 1).given, wrong)
                self.assertIs(raised(NotALine, call, wrong, None, 0).given, wrong)
            self.assertIs(raised(NotALine, under_way, wrong, None, 0, -1).given, wrong)

    def test_no_times(self):
        for wrong in NO_TIMES:
            for call in self.CALLS:
                self.assertIs(raised(InvalidTimes, call, CHAIN, wrong, 1).given, wrong)
                self.assertIs(raised(InvalidTimes, call, CHAIN, wrong, 0).given, wrong)
            self.assertIs(raised(InvalidTimes, under_way, CHAIN, wrong, 0, -1).given, wrong)

    def test_names_of_times(self):
        for wrong in NO_NAMES:
            if not isinstance(wrong, (list, dict, set, Station, Link)):
                times = {(wrong, 1): 1}
                self.assertIs(raised(InvalidTimes, end, CHAIN, times, 1).given, times)

    def test_numbers(self):
        for wrong in NO_NUMBERS:
            for call in self.CALLS:
                self.assertIs(raised(InvalidNumber, call, CHAIN, {}, wrong).given, wrong)
            self.assertIs(raised(InvalidNumber, under_way, CHAIN, {}, wrong, -1).given, wrong)
        for call in self.CALLS:
            call(CHAIN, {}, 1000)

    def test_moments_that_are_none(self):
        for wrong in (*NO_INTEGERS, Odd(), -1, -(10 ** 39), A):
            self.assertIs(raised(InvalidNumber, under_way, CHAIN, {}, 1, wrong).given, wrong)
            self.assertIs(raised(InvalidNumber, under_way, moment=wrong, number=1, times={}, line=CHAIN).given, wrong)
        self.assertEqual(under_way(CHAIN, {}, 1, 0), ())

    def test_events_raise_at_the_first_element(self):
        for kind, rest in ((NotALine, (None, {}, 1)), (InvalidTimes, (CHAIN, 1, 1)), (InvalidNumber, (CHAIN, {}, 0))):
            raised(kind, lambda: next(events(*rest)))


if __name__ == "__main__":
    unittest.main()
