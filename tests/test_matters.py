"""What matters in a line, held against the line without it and with each stock and each number of hands."""

import random
import unittest

from owntimes import matters
from owntimes.comparing import same
from owntimes.errors import InvalidIndex, NotALine, Stuck, UnknownName
from owntimes.lines import Line, Link, Station
from owntimes.matters import enough_hands, enough_stock, idle_links, idle_stations
from owntimes.moments import end
from owntimes.orders import outlet_lags
from owntimes.stuck import stuck
from tests import walks
from tests.drawn import joined, random_free_line, random_times
from tests.test_line_changes import NO_LINES
from tests.test_stations import NO_NAMES
from tests.words import are_same, with_hands, with_stock
from tests.wrong import NO_INTEGERS, Odd, raised

LINE = Line((Station("a"), Station("b", 2)), (Link("a", "b"), Link("a", "b", 4), Link("b", "b", 1)), "b")
STUCK = LINE.with_link(Link("b", "a"))


def drawn_line(chance, stations=3, links=5, stock=5):
    line = random_free_line(chance, stations, links, stock)
    return joined(line) if chance.random() < 0.4 else line


class IdleTest(unittest.TestCase):
    def test_idle_links(self):
        chance, seen = random.Random(101), [0, 0]
        for _ in range(200):
            line = drawn_line(chance, 5, 6)
            text, found = str(line), idle_links(line)
            self.assertEqual(type(found), tuple)
            self.assertEqual(found, tuple(at for at in range(len(line.links)) if same(line, line.without(at))), text)
            self.assertEqual(str(line), text)
            number = chance.randint(1, 9)
            times = random_times(chance, line, number, 5)
            for at in found:
                self.assertEqual(end(line, times, number), end(line.without(at), times, number))
            seen[0] += len(found)
            seen[1] += len(line.links) - len(found)
        self.assertGreater(min(seen), 100)

    def test_idle_links_by_walks(self):
        chance = random.Random(102)
        for _ in range(40):
            line = drawn_line(chance)
            found = tuple(at for at in range(len(line.links)) if are_same(line, line.without(at)))
            self.assertEqual(idle_links(line), found, str(line))

    def test_each_by_itself(self):
        twice = Line((Station("a"), Station("b")), (Link("a", "b"), Link("a", "b")), "b")
        self.assertEqual(idle_links(twice), (0, 1))
        self.assertEqual(idle_links(twice.without(0)), ())
        self.assertEqual(idle_links(LINE), (1,))
        self.assertEqual(idle_links(Line((Station("a"),), (), "a")), ())
        self.assertEqual(idle_links(Line((Station("a"), Station("b")), (Link("b", "a"),), "b")), (0,))

    def test_idle_stations(self):
        chance, seen = random.Random(103), [0, 0]
        for _ in range(300):
            line = random_free_line(chance, links=chance.choice((3, 6, 12)))
            found = idle_stations(line)
            self.assertEqual(found, tuple(name for name in line.timed if not outlet_lags(line, name)))
            self.assertEqual(found, tuple(name for name in line.timed if not any(walks.outlet_flags(line, name, 60))))
            seen[0] += len(found)
            seen[1] += len(line.timed) - len(found)
        self.assertGreater(min(seen), 100)
        gate = Line((Station("gate", timed=False), Station("b"), Station("a")), (), "gate")
        self.assertEqual(idle_stations(gate), ("a", "b"))
        self.assertEqual(idle_stations(gate.with_outlet("b")), ("a",))


class EnoughTest(unittest.TestCase):
    def by_stocks(self, line, link, found):
        """Held against each stock from 0 to 5, and above it by walks."""
        bare = line.without(link)
        enough = []
        for stock in range(12):
            new = line.with_stock(link, stock) if stock < 6 else with_stock(line, link, stock)
            free = not walks.is_stuck(new)
            enough.append(free and (same(new, bare) if stock < 6 else are_same(new, bare)))
        self.held(enough, 0, found, (str(line), link))

    def by_hands(self, line, name, found):
        """Held against each number of hands from 1 to 4, and above it by walks."""
        bare = line.with_hands(name, None)
        enough = [
            same(line.with_hands(name, hands), bare) if hands < 5 else are_same(with_hands(line, name, hands), bare)
            for hands in range(1, 12)
        ]
        self.held(enough, 1, found, (str(line), name))

    def held(self, enough, first, found, words):
        if found is None:
            # Where it is never enough, some number in a row of the least period is not.
            self.assertIn(False, enough[-6:], words)
        elif found < first + len(enough):
            self.assertEqual(enough[found - first:], [True] * (first + len(enough) - found), words)
            self.assertTrue(found == first or not enough[found - first - 1], words)
        else:
            self.assertFalse(all(enough), words)

    def test_stocks(self):
        chance, seen = random.Random(104), {}
        for _ in range(90):
            line = drawn_line(chance, links=4, stock=4)
            if not line.links:
                continue
            link = chance.randrange(len(line.links))
            text, found = str(line), enough_stock(line, link)
            self.by_stocks(line, link, found)
            self.assertEqual((str(line), enough_stock(link=link, line=line)), (text, found))
            seen[found] = seen.get(found, 0) + 1
        self.assertGreater(len(seen), 4, seen)

    def test_hands(self):
        chance, seen = random.Random(105), {}
        for _ in range(110):
            line = drawn_line(chance, links=4, stock=3)
            name = chance.choice(line.names)
            text, found = str(line), enough_hands(line, name)
            self.by_hands(line, name, found)
            self.assertEqual((str(line), enough_hands(station=name, line=line)), (text, found))
            seen[found] = seen.get(found, 0) + 1
        self.assertGreater(len(seen), 2, seen)

    def test_greater_lines(self):
        """With each stock and each number of hands that a line can have."""
        chance, seen = random.Random(106), {}
        for _ in range(250):
            line = drawn_line(chance, 5, 6)
            for link in range(len(line.links)):
                found, bare = enough_stock(line, link), line.without(link)
                enough = [
                    stuck(line.with_stock(link, stock)) is None and same(line.with_stock(link, stock), bare)
                    for stock in range(6)
                ]
                if found is not None and found < 6:
                    self.assertEqual(enough[found:], [True] * (6 - found), (str(line), link))
                    self.assertTrue(found == 0 or not enough[found - 1], (str(line), link))
                seen[found] = seen.get(found, 0) + 1
            for name in line.names:
                found, bare = enough_hands(line, name), line.with_hands(name, None)
                enough = [same(line.with_hands(name, hands), bare) for hands in range(1, 5)]
                if found is not None and found < 5:
                    self.assertEqual(enough[found - 1:], [True] * (5 - found), (str(line), name))
                    self.assertTrue(found == 1 or not enough[found - 2], (str(line), name))
        self.assertGreater(len(seen), 6, seen)

    def test_0_where_the_line_is_stuck_then(self):
        one = Line((Station("a", 1),), (Link("a", "a", 2),), "a")
        self.assertEqual(enough_stock(one, 0), 1)
        self.assertEqual(enough_stock(one.with_hands("a", 2), 0), None)
        early = Line((Station("a", None),), (Link("a", "a", 2, early=True),), "a")
        self.assertEqual(enough_stock(early, 0), 1)
        idle = Line((Station("a"), Station("b")), (Link("b", "b", 3),), "a")
        self.assertEqual(enough_stock(idle, 0), 1)
        open_way = Line((Station("a"), Station("b")), (Link("b", "a", 3),), "b")
        self.assertEqual(enough_stock(open_way, 0), 0)
        back = Line((Station("a"), Station("b")), (Link("a", "b"), Link("b", "a", 3)), "b")
        self.assertEqual(enough_stock(back, 1), None)
        self.assertEqual(enough_stock(back, 0), None)

    def test_examples_by_hand(self):
        self.assertEqual([enough_stock(LINE, at) for at in range(3)], [4, 0, None])
        self.assertEqual([enough_hands(LINE, name) for name in "ab"], [None, 1])
        # Works of 29 and 30 numbers apart are in sequence; from 812 on all are, and no sooner.
        names = [f"s{at}" for at in range(6)]
        ring = [Link(names[at], names[(at + 1) % 6], 5) for at in range(6)]
        late = Line(tuple(Station(name, None) for name in names), (*ring, Link("s0", "s1", 4)), "s0")
        self.assertEqual([enough_hands(late, name) for name in names], [812] * 6)
        self.assertEqual(enough_stock(late.with_link(Link("s0", "s0", 5)), 7), 812)
        self.assertIsNone(enough_stock(late, 6))
        self.assertIsNone(enough_hands(Line(late.stations, tuple(ring), "s0"), "s0"))

    def test_a_stock_that_changes_nothing_before_one_that_does(self):
        # Works with even lags are in sequence already; a link with an odd lag puts others in sequence.
        line = Line((Station("a", 2),), (Link("a", "a", 2),), "a")
        bare = line.without(0)
        self.assertEqual([same(line.with_stock(0, stock), bare) for stock in (1, 2, 3, 4, 5)], [
            False, True, False, True, False,
        ])
        self.assertIsNone(enough_stock(line, 0))
        pair = Line((Station("a", 3), Station("b", None)), (Link("a", "b"), Link("a", "a", 4), Link("a", "b", 1)), "b")
        self.assertEqual(enough_stock(pair, 2), 6)
        self.assertEqual(idle_links(pair), ())
        self.assertEqual(idle_links(pair.with_stock(2, 4)), (2,))
        self.assertEqual(idle_links(pair.with_stock(2, 5)), ())

    def test_stations_that_are_not_timed(self):
        gate = Line((Station("a"), Station("g", 3, timed=False)), (Link("a", "g"),), "g")
        self.assertEqual([enough_hands(gate, name) for name in ("a", "g")], [None, 1])
        self.assertIsNone(enough_hands(gate.with_hands("a", None), "g"))


class RefusedTest(unittest.TestCase):
    def test_no_lines(self):
        for wrong in NO_LINES:
            self.assertIs(raised(NotALine, idle_links, wrong).given, wrong)
            self.assertIs(raised(NotALine, idle_stations, line=wrong).given, wrong)
            self.assertIs(raised(NotALine, enough_stock, wrong, None).given, wrong)
            self.assertIs(raised(NotALine, enough_hands, wrong, None).given, wrong)

    def test_no_link_and_no_station(self):
        for line in (LINE, STUCK):
            for wrong in (*NO_INTEGERS, Odd(), -1, -2, 4, 5, 10 ** 39, -(10 ** 39), Link("a", "b")):
                self.assertIs(raised(InvalidIndex, enough_stock, line, wrong).given, wrong)
            for wrong in (*NO_NAMES, "c", "ab", Station("a"), 0):
                if not isinstance(wrong, str) or wrong not in ("a", "b"):
                    self.assertIs(raised(UnknownName, enough_hands, line, wrong).given, wrong)
        self.assertEqual(raised(InvalidIndex, enough_stock, Line((Station("a"),), (), "a"), 0).given, 0)
        self.assertEqual(raised(InvalidIndex, enough_stock, LINE, 3).given, 3)

    def test_stuck_is_raised_last(self):
        for call, rest in (
            (idle_links, ()), (idle_stations, ()), (enough_stock, (0,)), (enough_stock, (3,)), (enough_hands, ("a",)),
        ):
            self.assertEqual(raised(Stuck, call, STUCK, *rest).ring, (0, 3))

    def test_modules(self):
        for name in ("idle_links", "idle_stations", "enough_stock", "enough_hands"):
            self.assertEqual(getattr(matters, name).__module__, "owntimes.matters")


if __name__ == "__main__":
    unittest.main()
