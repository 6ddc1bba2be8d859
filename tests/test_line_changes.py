"""Lines with one thing changed, lines turned, and lines side by side."""

import random
import unittest

from owntimes.errors import EarlyLink, InvalidHands, InvalidIndex, InvalidLinks, InvalidStations, InvalidStock, NotALine
from owntimes.errors import NotALink, Taken, UnknownName
from owntimes.lines import Line, Link, Station
from owntimes.moments import whole_end
from tests.drawn import random_free_line, random_line, random_times
from tests.test_stations import HANDS, NO_HANDS, NO_NAMES, NO_STOCKS
from tests.wrong import NO_INTEGERS, Odd, raised

A, B, C = Station("a"), Station("b", 2), Station("c", None, timed=False)
AB, BA = Link("a", "b"), Link("b", "a", 2, early=True)
PAIR = Line((A, B), (AB, BA), "b")
SIX = tuple(Station(f"s{at}") for at in range(6))
TWELVE = tuple(Link("a", "a", 1 + at % 5) for at in range(12))
NO_LINES = (*NO_INTEGERS, Odd(), "a", str(PAIR), repr(PAIR), 0, A, AB, (PAIR,), [PAIR], Line)


class ChangedTest(unittest.TestCase):
    """Each line is told by its parts, and is the same afterwards."""

    def drawn(self, seed, many=150):
        chance = random.Random(seed)
        for _ in range(many):
            line = random_line(chance)
            text = str(line)
            yield chance, line
            self.assertEqual(str(line), text)

    def check(self, line, stations, links, outlet):
        self.assertIs(type(line), Line)
        self.assertEqual((line.stations, line.links, line.outlet), (tuple(stations), tuple(links), outlet))
        self.assertEqual(line, Line(tuple(stations), tuple(links), outlet))

    def test_with_stock(self):
        for _, line in self.drawn(31):
            for at, old in enumerate(line.links):
                for stock in range(6):
                    links = list(line.links)
                    links[at] = Link(old.source, old.target, stock, early=old.early)
                    self.check(line.with_stock(at, stock), line.stations, links, line.outlet)
                    self.check(line.with_stock(stock=stock, link=at), line.stations, links, line.outlet)

    def test_with_stock_refused(self):
        for wrong in (*NO_INTEGERS, Odd(), -1, -2, 2, 3, 10 ** 39, -(10 ** 39), AB):
            self.assertIs(raised(InvalidIndex, PAIR.with_stock, wrong, 1).given, wrong)
            self.assertIs(raised(InvalidIndex, PAIR.with_stock, stock=None, link=wrong).given, wrong)
        for wrong in NO_STOCKS:
            self.assertIs(raised(InvalidStock, PAIR.with_stock, 1, wrong).given, wrong)
        self.assertEqual(raised(InvalidIndex, Line((A,), (), "a").with_stock, 0, 0).given, 0)

    def test_with_hands(self):
        for _, line in self.drawn(32):
            for at, old in enumerate(line.stations):
                for hands in HANDS:
                    stations = list(line.stations)
                    stations[at] = Station(old.name, hands, timed=old.timed)
                    self.check(line.with_hands(old.name, hands), stations, line.links, line.outlet)
                    self.check(line.with_hands(hands=hands, station=old.name), stations, line.links, line.outlet)

    def test_with_hands_refused(self):
        for wrong in (*NO_NAMES, "c", 0, A):
            if wrong != "a" or not isinstance(wrong, str):
                self.assertIs(raised(UnknownName, PAIR.with_hands, wrong, 1).given, wrong)
                self.assertIs(raised(UnknownName, PAIR.with_hands, hands=0, station=wrong).given, wrong)
        for wrong in NO_HANDS:
            self.assertIs(raised(InvalidHands, PAIR.with_hands, "b", wrong).given, wrong)

    def test_with_outlet(self):
        for _, line in self.drawn(33):
            for name in line.names:
                self.check(line.with_outlet(name), line.stations, line.links, name)
                self.check(line.with_outlet(station=name), line.stations, line.links, name)

    def test_with_outlet_refused(self):
        for wrong in (*NO_NAMES, "c", "outlet", A):
            if wrong != "a" or not isinstance(wrong, str):
                self.assertIs(raised(UnknownName, PAIR.with_outlet, wrong).given, wrong)
                self.assertIs(raised(UnknownName, PAIR.with_outlet, station=wrong).given, wrong)

    def test_without(self):
        for _, line in self.drawn(34):
            for at in range(len(line.links)):
                links = [link for to, link in enumerate(line.links) if to != at]
                self.check(line.without(at), line.stations, links, line.outlet)
                self.check(line.without(link=at), line.stations, links, line.outlet)

    def test_without_refused(self):
        for wrong in (*NO_INTEGERS, Odd(), -1, 2, 12, 10 ** 39, AB, "0"):
            self.assertIs(raised(InvalidIndex, PAIR.without, wrong).given, wrong)
            self.assertIs(raised(InvalidIndex, PAIR.without, link=wrong).given, wrong)
        for wrong in (0, -1, 1):
            self.assertIs(raised(InvalidIndex, Line((A,), (), "a").without, wrong).given, wrong)

    def test_with_link(self):
        for chance, line in self.drawn(35):
            new = Link(chance.choice(line.names), chance.choice(line.names), 3, early=True)
            if len(line.links) < 12:
                self.check(line.with_link(new), line.stations, (*line.links, new), line.outlet)
                self.check(line.with_link(new=new), line.stations, (*line.links, new), line.outlet)
            else:
                self.assertEqual(raised(InvalidLinks, line.with_link, new).index, 12)
        full = Line((A,), TWELVE[:11], "a").with_link(TWELVE[11])
        self.assertEqual(full.links, TWELVE)

    def test_with_link_refused(self):
        full = Line((A,), TWELVE, "a")
        for wrong in (*NO_INTEGERS, Odd(), "link a -> b: stock 0", (AB,), A, Link, PAIR):
            for line in (PAIR, full):
                self.assertIs(raised(NotALink, line.with_link, wrong).given, wrong)
                self.assertIs(raised(NotALink, line.with_link, new=wrong).given, wrong)
        for wrong in (Link("a", "c"), Link("c", "a"), Link("c", "c", 5), Link("a", "ab"), Link("ab", "b")):
            self.assertEqual(raised(InvalidLinks, PAIR.with_link, wrong).index, 2)
            self.assertEqual(raised(InvalidLinks, Line((A, B), (), "a").with_link, wrong).index, 0)
            self.assertEqual(raised(InvalidLinks, full.with_link, wrong).index, 12)
        self.assertEqual(raised(InvalidLinks, full.with_link, Link("a", "a")).index, 12)

    def test_turned(self):
        for _, line in self.drawn(36):
            early = [at for at, link in enumerate(line.links) if link.early]
            if early:
                self.assertEqual(raised(EarlyLink, line.turned).index, early[0])
            else:
                links = [Link(link.target, link.source, link.stock) for link in line.links]
                self.check(line.turned(), line.stations, links, line.outlet)
                self.assertEqual(line.turned().turned(), line)
        late = Line((A, B), (AB, Link("b", "a", 1), BA, BA), "b")
        self.assertEqual(raised(EarlyLink, late.turned).index, 2)
        self.assertEqual(raised(EarlyLink, PAIR.turned).index, 1)
        self.assertEqual(Line((A,), (), "a").turned(), Line((A,), (), "a"))

    def test_turned_lines_are_done_as_late(self):
        chance = random.Random(37)
        for _ in range(150):
            drawn = random_free_line(chance, stock=3)
            links = tuple(Link(link.source, link.target, link.stock) for link in drawn.links)
            line, number = Line(drawn.stations, links, drawn.outlet), chance.randint(1, 8)
            times = random_times(chance, line, number, 9)
            turned = {(name, number + 1 - k): time for (name, k), time in times.items()}
            self.assertEqual(whole_end(line, times, number), whole_end(line.turned(), turned, number))

    def test_side_by_side(self):
        chance = random.Random(38)
        for _ in range(300):
            one, other = random_line(chance, stations=3, links=6), random_line(chance, stations=3, links=6)
            words = str(one), str(other)
            taken = [name for name in other.names if name in one.names]
            if taken:
                self.assertEqual(raised(Taken, lambda: one + other).given, taken[0])
            else:
                self.check(one + other, one.stations + other.stations, one.links + other.links, one.outlet)
            self.assertEqual((str(one), str(other)), words)
        self.check(PAIR + Line((C,), (), "c"), (A, B, C), (AB, BA), "b")
        self.check(Line((C,), (), "c") + PAIR, (C, A, B), (AB, BA), "c")

    def test_side_by_side_refused(self):
        for wrong in NO_LINES:
            self.assertIs(raised(NotALine, lambda: PAIR + wrong).given, wrong)
        self.assertEqual(raised(Taken, lambda: PAIR + PAIR).given, "a")
        self.assertEqual(raised(Taken, lambda: PAIR + Line((C, B, A), (), "a")).given, "b")
        many = Line(SIX, (), "s0")
        self.assertEqual(raised(Taken, lambda: many + many).given, "s0")
        self.assertEqual(raised(InvalidStations, lambda: many + PAIR).index, 6)
        self.assertEqual(raised(InvalidStations, lambda: PAIR + many).index, 6)
        five = Line(SIX[:5], (Link("s0", "s1", 1),) * 11, "s0")
        self.assertEqual(raised(InvalidStations, lambda: five + PAIR).index, 6)
        self.assertEqual(raised(InvalidStations, lambda: Line(SIX[:5], (), "s0") + PAIR).index, 6)

    def test_side_by_side_links(self):
        one, other = Line((A,), TWELVE, "a"), Line((B,), (Link("b", "b", 1),), "b")
        self.assertEqual(raised(InvalidLinks, lambda: one + other).index, 12)
        self.assertEqual(raised(InvalidLinks, lambda: other + one).index, 12)
        self.assertEqual((one.without(0) + other).links, TWELVE[1:] + other.links)
        self.assertEqual((Line((B,), (), "b") + one).links, TWELVE)
        five = Line(SIX[:5], (Link("s0", "s1", 1),) * 12, "s0")
        self.assertEqual(raised(InvalidLinks, lambda: five + other).index, 12)


if __name__ == "__main__":
    unittest.main()
