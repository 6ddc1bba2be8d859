"""Tables of lines, held against walks over points and against lines that are the same."""

import random
import unittest

from owntimes import tables
from owntimes.comparing import same
from owntimes.errors import NotALine, Stuck
from owntimes.lagsets import Lags
from owntimes.lines import Line, Link, Station
from owntimes.tables import table
from tests.drawn import changed_line, joined, random_free_line, random_pair
from tests.test_line_changes import NO_LINES
from tests.words import Words, settled
from tests.wrong import raised

CHAIN = Line((Station("b"), Station("a")), (Link("a", "b"),), "b")


def texts(found):
    """A table with the texts of its lag sets."""
    outlets, orders, pairs = found
    return (
        tuple((name, str(lags)) for name, lags in outlets),
        tuple((one, other, str(lags)) for one, other, lags in orders), pairs,
    )


class TableTest(unittest.TestCase):
    def check(self, line):
        text, found = str(line), table(line)
        start, period = settled(line)
        last = start + 2 * period + 2
        words = Words(line, last)
        names = [name for name in line.timed if any(words.outlets[name])]
        outlets, orders, pairs = found
        self.assertEqual((type(found), type(outlets), type(orders), type(pairs)), (tuple,) * 4)
        self.assertEqual([name for name, _ in outlets], sorted(names))
        for name, lags in outlets:
            self.held(lags, words.outlets[name])
        later = {
            (one, other): [False, *words.orders[one, other][1:]] for one in names for other in names
            if any(words.orders[one, other][1:])
        }
        self.assertEqual([row[:2] for row in orders], sorted(later))
        for one, other, lags in orders:
            self.held(lags, later[one, other])
        self.assertEqual(pairs, tuple(
            (one, other) for one in sorted(names) for other in sorted(names)
            if one < other and words.in_sequence((one, 1), (other, 1))
        ))
        self.assertEqual(table(line=line), found)
        self.assertEqual(str(line), text)

    def held(self, lags, flags):
        self.assertIs(type(lags), Lags)
        self.assertTrue(lags)
        self.assertEqual([lag in lags for lag in range(len(flags))], flags)
        self.assertEqual(Lags.read(str(lags)), lags)

    def test_drawn_lines(self):
        chance = random.Random(111)
        for _ in range(120):
            line = random_free_line(chance, stations=4, links=7)
            self.check(line)
            if len(line.names) < 5:
                self.check(joined(line))

    def test_greater_lines(self):
        chance = random.Random(112)
        for _ in range(25):
            self.check(random_free_line(chance, links=9))

    def test_equal_tables_exactly_for_lines_that_are_the_same(self):
        chance, seen = random.Random(113), [0, 0]
        for _ in range(900):
            one, other = random_pair(chance, stations=4, links=7)
            if chance.random() < 0.4 and one.names == other.names:
                one, other = joined(one), joined(other)
            alike = same(one, other)
            self.assertIs(table(one) == table(other), alike, (str(one), str(other)))
            seen[alike] += str(one) != str(other)
        self.assertGreater(min(seen), 150, seen)

    def test_lines_put_otherwise_have_equal_tables(self):
        chance = random.Random(114)
        for _ in range(60):
            line = random_free_line(chance)
            stations, links = list(line.stations), list(line.links)
            chance.shuffle(stations)
            chance.shuffle(links)
            self.assertEqual(table(Line(tuple(stations), tuple(links), line.outlet)), table(line))

    def test_which_stations_count(self):
        gate = Station("gate", timed=False)
        self.assertEqual(table(Line((gate,), (), "gate")), ((), (), ()))
        self.assertEqual(table(Line((gate, Station("a")), (Link("gate", "a"),), "gate")), ((), (), ()))
        stations = (Station("z"), gate, Station("m", None), Station("idle"))
        line = Line(stations, (Link("m", "gate"), Link("z", "m"), Link("z", "idle")), "gate")
        self.assertEqual(texts(table(line)), (
            (("m", "0+1"), ("z", "0+1")), (("z", "m", "1+1"), ("z", "z", "1+1")), (("m", "z"),),
        ))

    def test_order_lags_from_1_on_alone(self):
        free = Line((Station("a", None), Station("b", None)), (Link("a", "b"),), "b")
        self.assertEqual(texts(table(free)), ((("a", "0"), ("b", "0")), (), (("a", "b"),)))
        later = free.with_stock(0, 2)
        self.assertEqual(texts(table(later)), ((("a", "2"), ("b", "0")), (("a", "b", "2"),), ()))
        both = free.with_link(Link("a", "b", 2))
        self.assertEqual(texts(table(both)), ((("a", "0 2"), ("b", "0")), (("a", "b", "2"),), (("a", "b"),)))
        self.assertEqual(texts(table(CHAIN)), (
            (("a", "0+1"), ("b", "0+1")), (("a", "a", "1+1"), ("a", "b", "1+1"), ("b", "b", "1+1")), (("a", "b"),),
        ))

    def test_pairs_whichever_comes_first(self):
        out = joined(Line((Station("a", None), Station("b", None)), (), "b"))
        one, other = out.with_link(Link("a", "b")), out.with_link(Link("b", "a"))
        self.assertEqual(table(one)[2], (("a", "b"),))
        self.assertEqual(table(one), table(other))
        self.assertNotEqual(table(one), table(out))

    def test_changed_lines(self):
        chance = random.Random(115)
        for _ in range(30):
            line = random_free_line(chance, stations=3, links=4)
            self.check(changed_line(chance, line, 2))

    def test_refused(self):
        for wrong in NO_LINES:
            self.assertIs(raised(NotALine, table, wrong).given, wrong)
            self.assertIs(raised(NotALine, table, line=wrong).given, wrong)
        self.assertEqual(raised(Stuck, table, CHAIN.with_link(Link("b", "a"))).ring, (1, 0))
        self.assertEqual(tables.table.__module__, "owntimes.tables")


if __name__ == "__main__":
    unittest.main()
