"""Lines made, refused and read."""

import itertools
import random
import unittest

from owntimes.errors import InvalidLinks, InvalidOutlet, InvalidStations, InvalidText, UnknownName
from owntimes.lines import Line, Link, Station
from tests.drawn import NAMES, random_line
from tests.test_stations import NO_NAMES
from tests.wrong import Odd, raised

A, B, C = Station("a"), Station("b", 2), Station("c", None, timed=False)
AB, BA = Link("a", "b"), Link("b", "a", 2, early=True)
NO_TUPLES = (
    None, True, 0, 1, "", "a", b"a", [], [A], [AB], {}, {"a": A}, {"a"}, object(), Odd(), A, AB, Station, iter((A,)),
)
NO_PARTS = (None, True, 0, "", "a", b"a", (), (A,), (AB,), [A], {}, object(), Odd(), Station, Link, Line((A,), (), "a"))
SIX = tuple(Station(f"s{at}") for at in range(6))
TWELVE = tuple(Link("a", "a", 1 + at % 5) for at in range(12))


class MadeTest(unittest.TestCase):
    def test_drawn_lines(self):
        chance = random.Random(21)
        for _ in range(400):
            parts = random_line(chance)
            stations, links, outlet = parts.stations, parts.links, parts.outlet
            for line in (Line(stations, links, outlet), Line(outlet=outlet, links=links, stations=stations)):
                self.assertEqual((line.stations, line.links, line.outlet), (stations, links, outlet))
                self.assertEqual(line.names, tuple(station.name for station in stations))
                self.assertEqual(line.timed, tuple(sorted(s.name for s in stations if s.timed)))
                self.assertEqual((type(line.names), type(line.timed)), (tuple, tuple))
                self.assertEqual(len(line), len(stations))
                rows = [*map(str, stations), *map(str, links), f"outlet {outlet}"]
                self.assertEqual(str(line), "\n".join(rows))
                self.assertEqual(repr(line), f"Line of {len(stations)} stations, {len(links)} links")
                for station in stations:
                    self.assertEqual(line[station.name], station)
                self.assertTrue(line)

    def test_the_text_of_point_10(self):
        line = Line(
            (Station("cut"), Station("weld", None), Station("gate", 2, timed=False)),
            (Link("cut", "weld"), Link("weld", "cut", 2, early=True)), "weld",
        )
        text = (
            "station cut: hands 1\nstation weld: hands any\nstation gate: hands 2, no time\n"
            "link cut -> weld: stock 0\nlink weld -> cut: stock 2, early\noutlet weld"
        )
        self.assertEqual((str(line), line.names, line.timed), (text, ("cut", "weld", "gate"), ("cut", "weld")))

    def test_least_and_greatest(self):
        least = Line((A,), (), "a")
        self.assertEqual((len(least), repr(least), str(least)), (
            1, "Line of 1 stations, 0 links", "station a: hands 1\noutlet a",
        ))
        self.assertTrue(least)
        links = tuple(Link(f"s{at % 6}", f"s{at * 5 % 6}", at % 6) for at in range(12))
        greatest = Line(SIX, links, "s5")
        self.assertEqual((len(greatest), repr(greatest)), (6, "Line of 6 stations, 12 links"))
        self.assertEqual(repr(Line(SIX[:2], (Link("s0", "s1"),), "s0")), "Line of 2 stations, 1 links")

    def test_stuck_lines_are_lines(self):
        stuck = Line((A,), (Link("a", "a"),), "a")
        self.assertEqual(str(stuck), "station a: hands 1\nlink a -> a: stock 0\noutlet a")

    def test_only_timed_names_ascend(self):
        line = Line((Station("z"), Station("b", timed=False), Station("a1"), Station("a")), (), "z")
        self.assertEqual((line.names, line.timed), (("z", "b", "a1", "a"), ("a", "a1", "z")))
        self.assertEqual(Line((C,), (), "c").timed, ())

    def test_equal_and_unlike(self):
        lines = [
            Line((A, B), (AB,), "b"), Line((A, B), (AB,), "a"), Line((B, A), (AB,), "b"), Line((A, B), (), "b"),
            Line((A, B), (AB, AB), "b"), Line((A, B), (AB, BA), "b"), Line((A, B), (BA, AB), "b"),
            Line((A, Station("b")), (AB,), "b"), Line((A, Station("b", 2, timed=False)), (AB,), "b"),
            Line((A, B, C), (AB,), "b"), Line((A, B), (Link("a", "b", early=True),), "b"),
            Line((A, B), (Link("a", "b", 1),), "b"),
        ]
        for (at, one), (to, other) in itertools.product(enumerate(lines), repeat=2):
            self.assertIs(one == other, at == to)
            self.assertIs(one != other, at != to)
            self.assertIs(str(one) == str(other), at == to)
            self.assertEqual(one, Line.read(str(one)))

    def test_other_values_beside_equals(self):
        line = Line((A,), (), "a")
        for value in (str(line), repr(line), A, (A,), ((A,), (), "a"), None, 1, "a", [line], Line):
            self.assertIs(line == value, False)
            self.assertIs(value == line, False)
            self.assertIs(line != value, True)
        self.assertIs(line == Odd(), False)

    def test_station_by_name(self):
        line = Line((A, B, C), (AB,), "b")
        self.assertEqual((line["a"], line["b"], line["c"]), (A, B, C))
        for wrong in (*NO_NAMES, "d", "abc", "station", -1, 2, ("a", "b"), A):
            if not isinstance(wrong, str) or wrong not in ("a", "b", "c"):
                self.assertIs(raised(UnknownName, lambda: line[wrong]).given, wrong)
        self.assertEqual(raised(UnknownName, lambda: line[0:1]).given, slice(0, 1))

    def test_station_by_name_of_one_and_of_six(self):
        for stations in ((A,), (C,), SIX, SIX[::-1]):
            line = Line(stations, (), stations[0].name)
            for at, station in enumerate(stations):
                self.assertIs(line[station.name], stations[at])
                self.assertIs(line["".join(list(station.name))], stations[at])
            for wrong in (*NO_NAMES, "d", "s", "s6", "s00", "S0", 0, 5, 6, ("s0",), stations[0], line):
                if not isinstance(wrong, str) or wrong not in line.names:
                    self.assertIs(raised(UnknownName, lambda: line[wrong]).given, wrong)
        self.assertEqual(line.names, ("s5", "s4", "s3", "s2", "s1", "s0"))

    def test_never_change(self):
        line = Line((A, B), (AB,), "b")
        for word in ("stations", "links", "outlet", "names", "timed"):
            with self.assertRaises(AttributeError):
                setattr(line, word, ())
        self.assertEqual(line, Line((A, B), (AB,), "b"))

    def test_all_stands_in_the_class_itself(self):
        for word in (
            "__init__", "read", "stations", "links", "outlet", "names", "timed", "__getitem__", "__len__",
            "with_stock", "with_hands", "with_outlet", "without", "with_link", "turned", "__add__", "__eq__",
            "__str__", "__repr__",
        ):
            self.assertIn(word, vars(Line))
        self.assertEqual((Line.__module__, Line.__name__), ("owntimes.lines", "Line"))


class RefusedTest(unittest.TestCase):
    def test_no_tuple_of_stations(self):
        for wrong in (*NO_TUPLES, ()):
            self.assertIsNone(raised(InvalidStations, Line, wrong, (), "a").index)
            self.assertIsNone(raised(InvalidStations, Line, wrong, [1], None).index)
            self.assertIsNone(raised(InvalidStations, Line, outlet="", links=(1,), stations=wrong).index)

    def test_no_station(self):
        for wrong in NO_PARTS:
            if isinstance(wrong, Station):
                continue
            for at in range(6):
                stations = SIX[:at] + (wrong,) + SIX[at:5] + (wrong,)
                self.assertEqual(raised(InvalidStations, Line, stations, None, None).index, at)
        self.assertEqual(raised(InvalidStations, Line, (A, AB), (), "a").index, 1)

    def test_equal_names(self):
        for at in range(6):
            for to in range(at + 1, 6):
                again = Station(f"s{at}", 3, timed=False)
                stations = SIX[:to] + (again,) + SIX[to + 1:]
                self.assertEqual(raised(InvalidStations, Line, stations, (), "s0").index, to)
        self.assertEqual(raised(InvalidStations, Line, (A, B, A, B), (), "a").index, 2)
        self.assertEqual(raised(InvalidStations, Line, (A, A, None), (), "a").index, 1)
        self.assertEqual(raised(InvalidStations, Line, (A, None, A), (), "a").index, 1)

    def test_the_seventh_station(self):
        self.assertEqual(len(Line(SIX, (), "s0")), 6)
        for more in ((A,), (A, B), (SIX[0],), (None,), (None, None, SIX[0]), (A,) * 20):
            self.assertEqual(raised(InvalidStations, Line, SIX + more, (), "s0").index, 6)
        self.assertEqual(raised(InvalidStations, Line, SIX[:5] + (SIX[0], A), (), "s0").index, 5)

    def test_no_tuple_of_links(self):
        for wrong in NO_TUPLES:
            self.assertIsNone(raised(InvalidLinks, Line, (A, B), wrong, "a").index)
            self.assertIsNone(raised(InvalidLinks, Line, (A, B), wrong, None).index)
            self.assertIsNone(raised(InvalidLinks, Line, outlet=1, links=wrong, stations=(A,)).index)

    def test_no_link(self):
        for wrong in (*NO_PARTS, A):
            for at in range(12):
                links = TWELVE[:at] + (wrong,) + TWELVE[at:11] + (wrong,)
                self.assertEqual(raised(InvalidLinks, Line, (A,), links, None).index, at)

    def test_unknown_ends(self):
        for wrong in (Link("a", "d"), Link("d", "a"), Link("d", "d", 5, early=True), Link("a", "abc"), Link("ab", "a")):
            for at in range(3):
                links = (AB, BA, AB)[:at] + (wrong, AB, None)
                self.assertEqual(raised(InvalidLinks, Line, (A, B), links, "d").index, at)

    def test_the_thirteenth_link(self):
        self.assertEqual(len(Line((A,), TWELVE, "a").links), 12)
        for more in (TWELVE[:1], (None,), (AB,), TWELVE, (Link("d", "d"), None)):
            self.assertEqual(raised(InvalidLinks, Line, (A,), TWELVE + more, "a").index, 12)
        self.assertEqual(raised(InvalidLinks, Line, (A,), TWELVE[:11] + (AB, AB), "a").index, 11)

    def test_outlet(self):
        for wrong in (*NO_NAMES, "d", "ab", "outlet", A, ("a",)):
            if not isinstance(wrong, str) or wrong not in ("a", "b"):
                self.assertIs(raised(InvalidOutlet, Line, (A, B), (AB,), wrong).given, wrong)
                self.assertIs(raised(InvalidOutlet, Line, outlet=wrong, links=(), stations=(A, B)).given, wrong)

    def test_order_of_arguments(self):
        self.assertEqual(raised(InvalidStations, Line, (A, 1), (1,), 1).index, 1)
        self.assertEqual(raised(InvalidLinks, Line, (A,), (1,), 1).index, 0)
        self.assertEqual(raised(InvalidOutlet, Line, (A,), (), 1).given, 1)
        self.assertEqual(raised(InvalidStations, Line, (), (1,), 1).index, None)


class ReadTest(unittest.TestCase):
    def refused(self, *texts):
        for text in texts:
            self.assertIs(raised(InvalidText, Line.read, text).given, text)

    def test_texts_of_lines(self):
        chance = random.Random(22)
        for _ in range(400):
            line = random_line(chance)
            for found in (Line.read(str(line)), Line.read(text=str(line))):
                self.assertEqual((found.stations, found.links, found.outlet), (line.stations, line.links, line.outlet))
                self.assertEqual((found, str(found), type(found)), (line, str(line), Line))

    def test_all_kinds_of_rows(self):
        for name in NAMES:
            for hands in (1, 2, 3, 4, None):
                for timed in (True, False):
                    for stock in range(6):
                        for early in (True, False):
                            parts = (Station(name, hands, timed=timed),), (Link(name, name, stock, early=early),), name
                            self.assertEqual(Line.read(str(Line(*parts))), Line(*parts))

    def test_names_like_other_words(self):
        parts = (Station("station"), Station("link"), Station("outlet"), Station("any"), Station("hands"))
        links = (Link("link", "station"), Link("hands", "any", 3), Link("outlet", "link", early=True))
        line = Line(parts, links, "outlet")
        self.assertEqual(Line.read(str(line)), line)

    def test_bent_at_each_place(self):
        text = str(Line((A, B, C), (AB, BA, Link("c", "a", 5)), "b"))
        for at in range(len(text) + 1):
            for sign in " \n\t0:,>-aA":
                bent = text[:at] + sign + text[at:]
                self.check_bent(text, bent)
                if at < len(text):
                    self.check_bent(text, text[:at] + sign + text[at + 1:])
            self.check_bent(text, text[:at])
            self.check_bent(text, text[at:])
            self.check_bent(text, text[:at] + text[at + 1:])

    def check_bent(self, text, bent):
        """What is read at all is written in just these words."""
        try:
            found = Line.read(bent)
        except InvalidText as error:
            self.assertIs(error.given, bent)
            self.assertNotEqual(bent, text)
        else:
            self.assertEqual(self.written(found), bent)

    def written(self, line):
        rows = []
        for station in line.stations:
            hands = "any" if station.hands is None else f"{station.hands}"
            rows.append(f"station {station.name}: hands {hands}{'' if station.timed else ', no time'}")
        for link in line.links:
            rows.append(f"link {link.source} -> {link.target}: stock {link.stock}{', early' if link.early else ''}")
        return "\n".join([*rows, f"outlet {line.outlet}"])

    def test_rows_exchanged_doubled_and_left_out(self):
        rows = str(Line((A, B), (AB, Link("a", "b", 1)), "b")).split("\n")
        known = {
            "\n".join(rows[at] for at in order)
            for order in ((0, 1, 2, 3, 4), (0, 1, 3, 2, 4), (1, 0, 2, 3, 4), (1, 0, 3, 2, 4))
        }
        for order in itertools.permutations(range(5)):
            text = "\n".join(rows[at] for at in order)
            if text in known:
                self.assertEqual(str(Line.read(text)), text)
            else:
                self.refused(text)
        for at in range(5):
            doubled = "\n".join([*rows[:at], rows[at], *rows[at:]])
            if at in (2, 3):
                self.assertEqual(len(Line.read(doubled).links), 3)
            else:
                self.refused(doubled)
            left = "\n".join(rows[:at] + rows[at + 1:])
            if at in (2, 3):
                self.assertEqual(len(Line.read(left).links), 1)
            else:
                self.refused(left)

    def test_bent_texts(self):
        self.refused(
            "", " ", "\n", "outlet a", "\noutlet a", "station a: hands 1", "station a: hands 1\n",
            "station a: hands 1\noutlet b", "station a: hands 1\noutlet a\n", "\nstation a: hands 1\noutlet a",
            "station a: hands 1\n\noutlet a", "station a: hands 1\noutlet a\noutlet a", "station a: hands 1\noutlet",
            "station a: hands 1\noutlet ", "station a: hands 1\n outlet a", "station a: hands 1\noutlet  a",
            "station a: hands 1\nOutlet a", "station a: hands 1\noutlet a ", "station a: hands 1\r\noutlet a",
            "station a: hands 01\noutlet a", "station a: hands 0\noutlet a", "station a: hands 5\noutlet a",
            "station a: hands +1\noutlet a", "station a: hands -1\noutlet a", "station a: hands  1\noutlet a",
            "station a: hands 1 \noutlet a", "station a: hands\noutlet a", "station a: hands \noutlet a",
            "station a: hands Any\noutlet a", "station a: hands None\noutlet a", "station a: hands one\noutlet a",
            "station a: hands 1.0\noutlet a", "station a: hands 1_0\noutlet a", "station a: hands 10\noutlet a",
            "station a:hands 1\noutlet a", "station a : hands 1\noutlet a", "station a hands 1\noutlet a",
            "station: hands 1\noutlet a", "station : hands 1\noutlet ", "stations a: hands 1\noutlet a",
            "Station a: hands 1\noutlet a", "station A: hands 1\noutlet A", "station 1: hands 1\noutlet 1",
            "station abcdefghi: hands 1\noutlet abcdefghi", "station  a: hands 1\noutlet a", "a: hands 1\noutlet a",
            "station a: hands 1, no time, no time\noutlet a", "station a: hands 1,no time\noutlet a",
            "station a: hands 1, notime\noutlet a", "station a: hands 1, no times\noutlet a",
            "station a: hands 1, early\noutlet a", "station a: hands 1, \noutlet a", "station a: hands 1,\noutlet a",
            "station a: no time\noutlet a", "station a: hands 1, no time \noutlet a",
            "station a: no time, hands 1\noutlet a", "station a: hands 1 , no time\noutlet a",
            "station a: hands 1; station b: hands 1\noutlet a", "station a: hands 1\nstation a: hands 1\noutlet a",
            "station a: hands 1 outlet a", "station a: hands 1, outlet a",
        )
        for row in (
            "link a -> a: stock", "link a -> a: stock ", "link a -> a: stock 6", "link a -> a: stock -1",
            "link a -> a: stock +1", "link a -> a: stock 01", "link a -> a: stock 00", "link a -> a: stock any",
            "link a -> a: stock 1 ", "link a -> a: stock  1", "link a -> a: stock 1,early",
            "link a -> a: stock 1 early",
            "link a -> a: stock 1, early, early", "link a -> a: stock 1, no time", "link a -> a: stock 1, Early",
            "link a -> a: stock 1,", "link a -> a", "link a ->a: stock 1", "link a-> a: stock 1", "link a->a: stock 1",
            "link a => a: stock 1", "link a <- a: stock 1", "link a - a: stock 1", "link a a: stock 1",
            "link a -> : stock 1", "link  -> a: stock 1", "link -> a: stock 1", "link a -> b: stock 1",
            "link b -> a: stock 1", "link a -> a -> a: stock 1", "link A -> a: stock 1", "Link a -> a: stock 1",
            " link a -> a: stock 1", "links a -> a: stock 1", "link a -> a:stock 1", "link a -> a : stock 1",
            "link a -> a: stock 1.0", "link a -> a: stock 10", "link a -> a: hands 1", "link a -> a: stock one", "link",
            "link a -> a: early, stock 1", "a -> a: stock 1", "outlet a", "", " ", "station a: hands 1",
        ):
            self.refused(f"station a: hands 1\n{row}\noutlet a")

    def test_more_than_a_line_may_have(self):
        stations = "\n".join(map(str, SIX))
        links = "\n".join(["link s0 -> s1: stock 1"] * 12)
        self.assertEqual(len(Line.read(f"{stations}\n{links}\noutlet s0").links), 12)
        self.refused(
            f"{stations}\nstation s6: hands 1\n{links}\noutlet s0", f"{stations}\n{links}\n{links}\noutlet s0",
            f"{stations}\n{links}\nlink s0 -> s1: stock 1\noutlet s0",
        )

    def test_no_strings(self):
        text = str(Line((A,), (), "a"))
        for value in (None, True, 0, 1, text.encode(), (text,), [text], {text: 1}, object(), Odd(), Line.read(text), A):
            self.assertIs(raised(InvalidText, Line.read, value).given, value)
            self.assertIs(raised(InvalidText, Line.read, text=value).given, value)


if __name__ == "__main__":
    unittest.main()
