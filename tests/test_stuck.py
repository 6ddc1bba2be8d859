"""Rings and stuck lines."""

import random
import unittest

from owntimes import certificates, comparing, factors, matters, moments, orders, overlap, stuck, tables
from owntimes.errors import InvalidNumber, InvalidTasks, InvalidTimes, NotALine, Stuck, UnknownName
from owntimes.lines import Line, Link, Station
from tests import walks
from tests.drawn import random_line
from tests.test_line_changes import NO_LINES
from tests.wrong import raised


def line_of(names, *links):
    made = [Link(source, target, stock) for source, target, stock in links]
    return Line(tuple(Station(name) for name in names), tuple(made), names[0])


PLAIN = line_of("ab", ("a", "b", 0))
# Each function that works something out for a line, with arguments behind the line that are valid.
CALLS = (
    (moments.moments, ({}, 1)), (moments.end, ({}, 1)), (moments.whole_end, ({}, 1)),
    (lambda line, times, number: list(moments.events(line, times, number)), ({}, 1)),
    (moments.under_way, ({}, 1, 0)), (orders.order_lags, ("a", "a")), (orders.outlet_lags, ("a",)),
    (orders.reaching, (1,)), (orders.in_sequence, ((),)), (orders.in_sequence, ((("a", 1), ("a", 2)),)),
    (overlap.may_overlap, ((),)), (overlap.may_overlap, ((("a", 1), ("a", 2)),)), (overlap.most_at_once, ()),
    (overlap.most_at_once, ((),)), (overlap.overlapping, ()), (overlap.overlapping, (("a",),)),
    (comparing.never_later, (PLAIN,)), (comparing.later_case, (PLAIN,)), (comparing.same, (PLAIN,)),
    (lambda line, other: comparing.never_later(other, line, whole=True), (PLAIN,)),
    (lambda line, other: comparing.later_case(other, line), (PLAIN,)),
    (lambda line, other: comparing.same(other, line), (PLAIN,)),
    (factors.factor, (PLAIN,)), (factors.beyond, (PLAIN, 1)), (factors.head_start, (PLAIN,)),
    (lambda line, other: factors.factor(other, line), (PLAIN,)),
    (lambda line, other: factors.beyond(other, line, 0), (PLAIN,)),
    (lambda line, other: factors.head_start(other, line), (PLAIN,)),
    (matters.idle_links, ()), (matters.idle_stations, ()), (matters.enough_hands, ("a",)), (tables.table, ()),
    (certificates.certify_later, (PLAIN,)), (certificates.certify_never_later, (PLAIN,)),
    (certificates.certify_at_once, (0,)), (certificates.certify_at_once, (60,)),
    (lambda line, other: certificates.certify_later(other, line, 20), (PLAIN,)),
    (lambda line, other: certificates.certify_never_later(other, line), (PLAIN,)),
)


class RingsTest(unittest.TestCase):
    def check(self, line, *found):
        self.assertEqual(stuck.rings(line), found)
        self.assertEqual(walks.rings(line), found)

    def test_drawn_lines(self):
        chance, many, times_stuck = random.Random(41), 0, 0
        for _ in range(500):
            line = random_line(chance, links=9, stock=chance.choice((1, 2, 5)))
            text, found = str(line), walks.rings(line)
            self.assertEqual(stuck.rings(line), found, text)
            least = [ring for ring in found if walks.stock_of(line, ring) == 0]
            self.assertEqual(stuck.stuck(line), least[0] if least else None, text)
            self.assertEqual(least != [], walks.is_stuck(line))
            self.assertEqual(str(line), text)
            many += len(found) > 3
            times_stuck += len(least) > 1
        self.assertGreater(min(many, times_stuck), 50)

    def test_lines_with_twelve_links(self):
        chance = random.Random(42)
        for stations in (1, 2, 3, 4, 5, 6, 6, 6):
            names = [f"s{at}" for at in range(stations)]
            links = [(chance.choice(names), chance.choice(names), chance.randint(0, 2)) for _ in range(12)]
            line = line_of(names, *links)
            self.assertEqual(stuck.rings(line), walks.rings(line))

    def test_kinds_of_rings(self):
        self.check(line_of("a"))
        self.check(line_of("ab", ("a", "b", 0)))
        self.check(line_of("a", ("a", "a", 1)), (0,))
        self.check(line_of("a", ("a", "a", 1), ("a", "a", 2)), (0,), (1,))
        self.check(line_of("ab", ("b", "a", 0), ("a", "b", 1)), (1, 0))
        self.check(line_of("ba", ("b", "a", 0), ("a", "b", 1)), (0, 1))
        self.check(line_of("ab", ("a", "b", 0), ("b", "a", 1), ("a", "b", 1)), (0, 1), (2, 1))
        self.check(line_of("abc", ("c", "b", 1), ("b", "c", 1)), (1, 0))
        self.check(line_of("abc", ("a", "b", 0), ("b", "c", 0), ("c", "a", 0), ("b", "a", 0)), (0, 1, 2), (0, 3))

    def test_a_way_that_comes_twice_is_none(self):
        self.check(line_of("abc", ("a", "b", 1), ("b", "a", 1), ("b", "c", 1), ("c", "b", 1)), (0, 1), (2, 3))

    def test_most_rings(self):
        names = [f"s{at}" for at in range(6)]
        pairs = [(names[at], names[(at + 1) % 6], at % 2) for at in range(6) for _ in range(2)]
        found = stuck.rings(line_of(names, *pairs))
        self.assertEqual((len(found), found), (64, walks.rings(line_of(names, *pairs))))

    def test_by_position_and_by_name(self):
        line = line_of("a", ("a", "a", 0))
        self.assertEqual((stuck.rings(line=line), stuck.stuck(line=line)), (((0,),), (0,)))

    def test_no_lines(self):
        for wrong in NO_LINES:
            for call in (stuck.rings, stuck.stuck):
                self.assertIs(raised(NotALine, call, wrong).given, wrong)
                self.assertIs(raised(NotALine, call, line=wrong).given, wrong)


class StuckTest(unittest.TestCase):
    def check(self, line, ring):
        self.assertEqual(stuck.stuck(line), ring)
        for call, rest in CALLS:
            if ring is None:
                call(line, *rest)
            else:
                self.assertEqual(raised(Stuck, call, line, *rest).ring, ring)

    def test_with_and_without_stock(self):
        self.check(line_of("a", ("a", "a", 0)), (0,))
        self.check(line_of("a", ("a", "a", 1)), None)
        self.check(line_of("ab", ("a", "b", 0), ("b", "a", 0)), (0, 1))
        self.check(line_of("ab", ("a", "b", 0), ("b", "a", 1)), None)
        self.check(line_of("ab", ("a", "b", 1), ("b", "a", 0)), None)
        self.check(line_of("ba", ("a", "b", 0), ("b", "a", 0)), (1, 0))
        self.check(line_of("abc", ("b", "c", 0), ("c", "b", 0)), (0, 1))

    def test_early_links_count_as_others(self):
        for early in (True, False):
            for hands in (1, 4, None):
                link = Link("a", "a", early=early)
                self.check(Line((Station("a", hands),), (link,), "a"), (0,))
                pair = (Link("a", "b", early=early), Link("b", "a", early=True))
                self.check(Line((Station("a", hands), Station("b")), pair, "b"), (0, 1))
        self.check(Line((Station("a"), Station("b", timed=False)), (Link("b", "b"),), "a"), (0,))

    def test_a_ring_that_the_outlet_does_not_wait_for(self):
        self.check(line_of("abc", ("a", "b", 0), ("c", "c", 0)), (1,))

    def test_the_least_of_several(self):
        self.check(line_of("ab", ("b", "b", 0), ("a", "b", 0), ("b", "a", 0), ("a", "a", 0)), (0,))
        self.check(line_of("ab", ("a", "b", 0), ("b", "a", 0), ("a", "a", 0), ("b", "b", 0)), (0, 1))
        self.check(line_of("ab", ("b", "a", 0), ("a", "b", 1), ("b", "b", 0), ("a", "b", 0)), (2,))
        self.check(line_of("ab", ("b", "a", 0), ("a", "b", 2), ("a", "b", 0), ("a", "b", 0)), (2, 0))
        self.check(line_of("abc", ("c", "a", 0), ("a", "b", 0), ("b", "c", 0), ("b", "a", 0)), (1, 2, 0))

    def test_drawn_lines(self):
        chance, seen = random.Random(43), [0, 0]
        for _ in range(200):
            drawn = random_line(chance, stations=4, links=8, stock=1)
            line = Line((Station("a"),), (), "a") + drawn if "a" not in drawn.names else drawn
            least = [ring for ring in walks.rings(line) if walks.stock_of(line, ring) == 0]
            if "a" not in line.timed:
                continue
            self.check(line, least[0] if least else None)
            seen[least != []] += 1
        self.assertGreater(min(seen), 20)

    def test_stuck_is_raised_last(self):
        line = line_of("a", ("a", "a", 0))
        for call in (moments.moments, moments.end, moments.whole_end, lambda *rest: list(moments.events(*rest))):
            self.assertEqual(raised(InvalidTimes, call, line, None, 0).given, None)
            self.assertEqual(raised(InvalidNumber, call, line, {}, 0).given, 0)
        self.assertEqual(raised(InvalidNumber, moments.under_way, line, {}, 1, -1).given, -1)
        self.assertEqual(raised(UnknownName, orders.order_lags, line, "a", "b").given, "b")
        self.assertEqual(raised(UnknownName, orders.outlet_lags, line, "b").given, "b")
        self.assertEqual(raised(InvalidNumber, orders.reaching, line, 0).given, 0)
        self.assertEqual(raised(InvalidTasks, orders.in_sequence, line, (("a", 0),)).index, 0)


if __name__ == "__main__":
    unittest.main()
