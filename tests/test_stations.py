"""Stations and links."""

import itertools
import unittest

from owntimes import lines
from owntimes.errors import InvalidFlag, InvalidHands, InvalidName, InvalidStock
from owntimes.lines import Line, Link, Station
from tests.wrong import NO_INTEGERS, Odd, raised

GOOD_NAMES = ("a", "z", "m7", "a0", "z9", "abcdefgh", "a1234567", "zzzzzzzz", "x9y8z7w6")
NO_NAMES = (
    "", "A", "aB", "1", "1a", "0", "abcdefghi", "a12345678", "a b", " a", "a ", "a\n", "\na", "a-b", "a_b", "_a", "a.",
    "-", "a" * 4000, "any ", "aA", "a{", "`a", "a`", "a:", "a/", "->", None, True, False, 0, 1, b"a", ("a",), ["a"],
    {"a": 1}, {"a"}, object(), str, Odd(), Station("a"), Link("a", "a"), 10 ** 39,
)
NO_HANDS = (
    0, 5, -1, 10 ** 39, True, False, "1", "any", "", b"1", (1,), [1], {1: 1}, object(), int, Odd(), Station("a"),
)
NO_STOCKS = (-1, 6, 10 ** 39, -(10 ** 39), *NO_INTEGERS, Odd(), Station("a"))
NO_FLAGS = (None, 0, 1, -1, "", "True", b"", (), (True,), [True], {}, object(), bool, Odd(), Station("a"))
HANDS = (1, 2, 3, 4, None)


class StationTest(unittest.TestCase):
    def test_all_kinds(self):
        for name, hands, timed in itertools.product(GOOD_NAMES, HANDS, (True, False)):
            words = "any" if hands is None else str(hands)
            row = f"station {name}: hands {words}" + ("" if timed else ", no time")
            for made in (Station(name, hands, timed=timed), Station(timed=timed, hands=hands, name=name)):
                self.assertEqual((made.name, made.hands, str(made)), (name, hands, row))
                self.assertIs(made.timed, timed)
                self.assertTrue(made)

    def test_by_default(self):
        made = Station("cut")
        self.assertEqual((made.name, made.hands, made.timed, str(made)), ("cut", 1, True, "station cut: hands 1"))
        self.assertEqual(str(Station("cut", None)), "station cut: hands any")
        self.assertEqual(str(Station(name="cut", timed=False)), "station cut: hands 1, no time")

    def test_timed_by_name_alone(self):
        with self.assertRaises(TypeError):
            Station("a", 1, True)

    def test_equal_and_unlike(self):
        made = [Station(name, hands, timed=timed) for name in ("a", "b") for hands in HANDS for timed in (True, False)]
        for one, other in itertools.product(enumerate(made), repeat=2):
            self.assertIs(one[1] == other[1], one[0] == other[0])
            self.assertIs(one[1] != other[1], one[0] != other[0])
        self.assertEqual(Station("a", 2, timed=False), Station(hands=2, timed=False, name="".join(("a", ""))))

    def test_other_values_beside_equals(self):
        made = Station("a")
        for value in ("a", str(made), ("a", 1, True), None, 1, Link("a", "a"), Station, Line((made,), (), "a")):
            self.assertIs(made == value, False)
            self.assertIs(value == made, False)
            self.assertIs(made != value, True)
        self.assertIs(made == Odd(), False)

    def test_wrong_names(self):
        for wrong in NO_NAMES:
            self.assertIs(raised(InvalidName, Station, wrong).given, wrong)
            self.assertIs(raised(InvalidName, Station, wrong, 0, timed=None).given, wrong)
            self.assertIs(raised(InvalidName, Station, timed=1, hands=[], name=wrong).given, wrong)

    def test_wrong_hands(self):
        for wrong in NO_HANDS:
            self.assertIs(raised(InvalidHands, Station, "a", wrong).given, wrong)
            self.assertIs(raised(InvalidHands, Station, timed=None, hands=wrong, name="a").given, wrong)

    def test_wrong_flags(self):
        for wrong in NO_FLAGS:
            self.assertIs(raised(InvalidFlag, Station, "a", timed=wrong).given, wrong)

    def test_never_change(self):
        made = Station("a", 2)
        for word in ("name", "hands", "timed"):
            with self.assertRaises(AttributeError):
                setattr(made, word, "b")
        self.assertEqual(made, Station("a", 2))

    def test_all_stands_in_the_class_itself(self):
        for word in ("__init__", "name", "hands", "timed", "__eq__", "__str__"):
            self.assertIn(word, vars(Station))
        self.assertEqual((lines.Station.__module__, lines.Station.__name__), ("owntimes.lines", "Station"))


class LinkTest(unittest.TestCase):
    def test_all_kinds(self):
        pairs = [*zip(GOOD_NAMES, GOOD_NAMES[1:]), ("a", "a"), ("abcdefgh", "abcdefgh")]
        for (source, target), stock, early in itertools.product(pairs, range(6), (True, False)):
            row = f"link {source} -> {target}: stock {stock}" + (", early" if early else "")
            for made in (
                Link(source, target, stock, early=early), Link(early=early, stock=stock, target=target, source=source),
            ):
                self.assertEqual((made.source, made.target, made.stock, str(made)), (source, target, stock, row))
                self.assertIs(made.early, early)
                self.assertTrue(made)

    def test_by_default(self):
        made = Link("cut", "weld")
        self.assertEqual((made.source, made.target, made.stock, made.early), ("cut", "weld", 0, False))
        self.assertEqual(str(made), "link cut -> weld: stock 0")
        self.assertEqual(str(Link(target="cut", source="weld", early=True)), "link weld -> cut: stock 0, early")

    def test_early_by_name_alone(self):
        with self.assertRaises(TypeError):
            Link("a", "b", 1, True)

    def test_equal_and_unlike(self):
        made = [
            Link(source, target, stock, early=early)
            for source in ("a", "b") for target in ("a", "b") for stock in range(6) for early in (True, False)
        ]
        for one, other in itertools.product(enumerate(made), repeat=2):
            self.assertIs(one[1] == other[1], one[0] == other[0])
            self.assertIs(one[1] != other[1], one[0] != other[0])
        self.assertEqual(Link("a", "b", 2), Link(early=False, stock=2, target="b", source="a"))

    def test_other_values_beside_equals(self):
        made = Link("a", "b")
        for value in ("a", str(made), ("a", "b", 0, False), None, 0, Station("a"), Link):
            self.assertIs(made == value, False)
            self.assertIs(value == made, False)
            self.assertIs(made != value, True)
        self.assertIs(made == Odd(), False)

    def test_wrong_names(self):
        for wrong in NO_NAMES:
            self.assertIs(raised(InvalidName, Link, wrong, "a").given, wrong)
            self.assertIs(raised(InvalidName, Link, wrong, None, -1, early=None).given, wrong)
            self.assertIs(raised(InvalidName, Link, "a", wrong).given, wrong)
            self.assertIs(raised(InvalidName, Link, early=0, stock=6, target=wrong, source="a").given, wrong)
            self.assertIs(raised(InvalidName, Link, target="", source=wrong).given, wrong)

    def test_wrong_stocks(self):
        for wrong in NO_STOCKS:
            self.assertIs(raised(InvalidStock, Link, "a", "b", wrong).given, wrong)
            self.assertIs(raised(InvalidStock, Link, early=0, stock=wrong, target="a", source="a").given, wrong)

    def test_wrong_flags(self):
        for wrong in NO_FLAGS:
            self.assertIs(raised(InvalidFlag, Link, "a", "b", early=wrong).given, wrong)
            self.assertIs(raised(InvalidFlag, Link, "a", "b", 5, early=wrong).given, wrong)

    def test_never_change(self):
        made = Link("a", "b", 3)
        for word in ("source", "target", "stock", "early"):
            with self.assertRaises(AttributeError):
                setattr(made, word, 0)
        self.assertEqual(made, Link("a", "b", 3))

    def test_all_stands_in_the_class_itself(self):
        for word in ("__init__", "source", "target", "stock", "early", "__eq__", "__str__"):
            self.assertIn(word, vars(Link))
        self.assertEqual((Link.__module__, Link.__name__), ("owntimes.lines", "Link"))


if __name__ == "__main__":
    unittest.main()
