"""Order lags, outlet lags and what is in sequence, held against walks over points."""

import itertools
import random
import unittest

from owntimes import orders
from owntimes.errors import InvalidNumber, InvalidTasks, NotALine, TooMany, UnknownName
from owntimes.lagsets import Lags
from owntimes.lines import Line, Link, Station
from owntimes.orders import in_sequence, order_lags, outlet_lags, reaching
from tests import oracle, walks
from tests.drawn import random_free_line
from tests.test_line_changes import NO_LINES
from tests.test_moments import NO_NUMBERS
from tests.test_stations import NO_NAMES
from tests.wrong import Odd, raised

A, B, C = Station("a"), Station("b", 2), Station("c", None, timed=False)
LOOP = Line((A, B, C), (Link("a", "b"), Link("b", "a", 3), Link("b", "c", 2)), "b")


def single_line(names, links, outlet="a"):
    """A line of stations without a limit on hands, with links told as (source, target, stock)."""
    return Line(tuple(Station(name, None) for name in names), tuple(Link(*link) for link in links), outlet)


class HeldAgainstWalks(unittest.TestCase):
    def check_lags(self, lags, flags_up_to, start, period, words):
        """The set is the one of the flags, which come again from the start by the period."""
        self.assertIs(type(lags), Lags)
        settled = max(start, lags.start)
        flags = flags_up_to(settled + period + lags.period)
        self.assertEqual([d in lags for d in range(len(flags))], flags, words)
        # Nothing shorter does: neither a period below nor a start before.
        mask = sum(1 << d for d, flag in enumerate(flags_up_to(settled + 3 * lags.period)) if flag)
        self.assertEqual(oracle.least_form(mask, settled, lags.period, 10 ** 6), (lags.start, lags.period), words)

    def check_order(self, line, first, second, chance):
        start, period = walks.settled(line, first)
        k = chance.choice((1, 2, 7, 10 ** 39))
        self.check_lags(
            order_lags(line, first, second), lambda last: walks.order_flags(line, first, second, last, k),
            start, period, (str(line), first, second),
        )

    def check_outlet(self, line, name, chance):
        start, period = walks.settled(line, name)
        k = chance.choice((1, 3, 50))
        self.check_lags(
            outlet_lags(line, name), lambda last: walks.outlet_flags(line, name, last, k),
            max(start, 1), period, (str(line), name),
        )

    def check_all(self, line, chance):
        text = str(line)
        for first, second in itertools.product(line.names, repeat=2):
            self.check_order(line, first, second, chance)
        for name in line.names:
            self.check_outlet(line, name, chance)
        self.assertEqual(str(line), text)


class LagsTest(HeldAgainstWalks):
    def test_drawn_lines(self):
        chance = random.Random(61)
        for _ in range(60):
            self.check_all(random_free_line(chance, stations=4, links=7), chance)

    def test_greater_lines(self):
        chance = random.Random(62)
        for _ in range(12):
            self.check_all(random_free_line(chance, links=9), chance)

    def test_lines_that_begin_many_works(self):
        chance = random.Random(63)
        for _ in range(25):
            drawn = random_free_line(chance, stations=5, links=6)
            stations = tuple(Station(station.name, None, timed=station.timed) for station in drawn.stations)
            self.check_all(Line(stations, drawn.links, drawn.outlet), chance)

    def test_late_lags(self):
        # Closed ways of 30 and 29: the last lag that neither they nor sums of them have is 811.
        chance, names = random.Random(64), [f"s{at}" for at in range(6)]
        ring = [(names[at], names[(at + 1) % 6], 5) for at in range(6)]
        line = single_line(names, ring + [("s0", "s1", 4)], "s3")
        closed = order_lags(line, "s0", "s0")
        self.assertEqual((closed.start, closed.period, closed.first), (812, 1, 29))
        self.assertEqual(order_lags(line, "s1", "s0").first, 25)
        self.check_order(line, "s0", "s4", chance)
        self.check_outlet(line, "s2", chance)
        later = closed.shifted(1000)
        self.assertEqual((later.start, (later & closed).start), (1812, 1812))
        self.assertEqual(raised(TooMany, later.shifted, 1000).limit, 2000)
        self.assertEqual(raised(TooMany, lambda: later + Lags((200,))).limit, 2000)

    def test_late_lags_with_a_period(self):
        chance, names = random.Random(65), [f"s{at}" for at in range(6)]
        ring = [(names[at], names[(at + 1) % 6], 5) for at in range(6)]
        for less in (3, 2, 1):
            line = single_line(names, ring + [("s0", "s1", less)], "s0")
            self.check_order(line, "s0", "s0", chance)
            self.check_order(line, "s5", "s2", chance)
        period = order_lags(line, "s0", "s0").period
        self.assertEqual((period, order_lags(single_line(names, ring, "s0"), "s0", "s0").period), (2, 30))

    def test_great_periods(self):
        # Three ways from a to z, over closed ways of 9, 5 and 4: from somewhere on they come again by 180.
        chance = random.Random(66)
        line = Line(
            tuple(Station(name, None, timed=name != "d") for name in ("a", "b", "c", "d", "e", "z")),
            (
                Link("a", "b", 1), Link("b", "c", 4), Link("c", "b", 5), Link("b", "z"),
                Link("a", "d", 2), Link("d", "d", 5), Link("d", "z"), Link("a", "e"), Link("e", "e", 4), Link("e", "z"),
            ), "z",
        )
        lags = order_lags(line, "a", "z")
        self.assertEqual((lags.period, lags.first), (180, 0))
        self.check_order(line, "a", "z", chance)
        self.check_outlet(line, "a", chance)

    def test_texts(self):
        self.assertEqual(str(order_lags(LOOP, "a", "a")), "1+1")
        self.assertEqual(str(order_lags(LOOP, "b", "b")), "2+1")
        self.assertEqual(str(order_lags(LOOP, "b", "a")), "3+1")
        self.assertEqual(str(order_lags(LOOP, "b", "c")), "2 4+1")
        self.assertEqual(str(order_lags(LOOP, "c", "b")), "none")
        self.assertEqual(str(order_lags(LOOP, "c", "c")), "none")
        self.assertEqual(str(outlet_lags(LOOP, "b")), "0 2+1")
        self.assertEqual(str(outlet_lags(LOOP, "c")), "none")
        self.assertEqual(str(outlet_lags(LOOP.with_outlet("c"), "c")), "0")
        self.assertEqual(str(outlet_lags(LOOP.with_outlet("c"), "a")), "2+1")

    def test_early_links_lead_from_the_beginning(self):
        line = Line((Station("a", 2), Station("b", None)), (Link("a", "b", early=True),), "b")
        self.assertEqual(str(order_lags(line, "a", "b")), "2+2")
        self.assertEqual(str(outlet_lags(line, "a")), "2+2")
        late = Line((Station("a", 2), Station("b", None)), (Link("a", "b"),), "b")
        self.assertEqual(str(order_lags(late, "a", "b")), "0+2")

    def test_no_steps_at_all(self):
        line = Line((C, Station("d", None)), (), "d")
        for first, second in itertools.product("cd", repeat=2):
            self.assertEqual(order_lags(line, first, second), Lags())
        self.assertEqual((str(outlet_lags(line, "c")), str(outlet_lags(line, "d"))), ("none", "0"))

    def test_by_position_and_by_name(self):
        self.assertEqual(order_lags(second="a", first="b", line=LOOP), order_lags(LOOP, "b", "a"))
        self.assertEqual(outlet_lags(station="a", line=LOOP), outlet_lags(LOOP, "a"))
        for name in ("order_lags", "outlet_lags", "reaching", "in_sequence"):
            self.assertEqual(getattr(orders, name).__module__, "owntimes.orders")

    def test_wrong_arguments(self):
        for wrong in NO_LINES:
            self.assertIs(raised(NotALine, order_lags, wrong, 1, 2).given, wrong)
            self.assertIs(raised(NotALine, outlet_lags, wrong, 1).given, wrong)
        for wrong in (*NO_NAMES, "d", "ab", A, ("a", 1)):
            if wrong != "a" or not isinstance(wrong, str):
                self.assertIs(raised(UnknownName, order_lags, LOOP, wrong, "d").given, wrong)
                self.assertIs(raised(UnknownName, order_lags, LOOP, "a", wrong).given, wrong)
                self.assertIs(raised(UnknownName, order_lags, second=None, first=wrong, line=LOOP).given, wrong)
                self.assertIs(raised(UnknownName, outlet_lags, LOOP, wrong).given, wrong)


class ReachingTest(unittest.TestCase):
    def walked(self, line, number):
        tasks = []
        for k in range(1, number + 1):
            for name in line.timed:
                ways = walks.led_to(line, (name, k, walks.END), number)
                if (name, k) == (line.outlet, number) or (line.outlet, number, walks.BEGIN) in ways:
                    tasks.append((name, k))
        return tuple(tasks)

    def test_drawn_lines(self):
        chance = random.Random(67)
        for _ in range(150):
            line, number = random_free_line(chance), chance.randint(1, 12)
            text = str(line)
            for found in (reaching(line, number), reaching(number=number, line=line)):
                self.assertEqual((found, str(line)), (self.walked(line, number), text), text)

    def test_great_numbers(self):
        found = reaching(LOOP, 1000)
        self.assertEqual(found, tuple(
            task for k in range(1, 1001) for task in (("a", k), ("b", k)) if task != ("b", 999)
        ))
        self.assertEqual(reaching(LOOP.with_hands("b", None).without(1), 1000), (
            *[("a", k) for k in range(1, 1001)], ("b", 1000),
        ))

    def test_outlets_without_time(self):
        self.assertEqual(reaching(LOOP.with_outlet("c"), 2), ())
        self.assertEqual(reaching(LOOP.with_outlet("c"), 3), (("a", 1), ("b", 1)))
        self.assertEqual(reaching(Line((C,), (), "c"), 5), ())

    def test_wrong_arguments(self):
        for wrong in NO_LINES:
            self.assertIs(raised(NotALine, reaching, wrong, 0).given, wrong)
        for wrong in NO_NUMBERS:
            self.assertIs(raised(InvalidNumber, reaching, LOOP, wrong).given, wrong)
            self.assertIs(raised(InvalidNumber, reaching, number=wrong, line=LOOP).given, wrong)


class InSequenceTest(unittest.TestCase):
    def walked(self, line, tasks):
        """Whether of each two tasks a way leads from the end of the one to the beginning of the other."""
        last = max([k for _, k in tasks], default=0)
        ways = {task: walks.led_to(line, (*task, walks.END), last) for task in tasks}
        return all(
            (*other, walks.BEGIN) in ways[one] or (*one, walks.BEGIN) in ways[other]
            for one, other in itertools.combinations(tasks, 2)
        )

    def test_drawn_tasks(self):
        chance, seen = random.Random(68), [0, 0]
        for _ in range(2500):
            line = random_free_line(chance, links=chance.choice((4, 8, 12)), stock=3)
            every = [(name, k) for name in line.timed for k in range(1, 9)]
            tasks = tuple(chance.sample(every, min(len(every), chance.choice((0, 1, 2, 2, 2, 3, 3, 4, 6)))))
            found, text = in_sequence(line, tasks), str(line)
            self.assertIs(found, self.walked(line, tasks), (text, tasks))
            self.assertIs(in_sequence(tasks=tasks[::-1], line=line), found)
            if len(tasks) > 2:
                seen[found] += 1
        self.assertGreater(min(seen), 50)

    def test_whole_chains(self):
        chain = Line((Station("b"), Station("a")), (Link("b", "a"), Link("a", "b", 1)), "a")
        tasks = [(name, k) for k in range(1, 400) for name in ("b", "a")]
        random.Random(69).shuffle(tasks)
        self.assertIs(in_sequence(chain, tuple(tasks)), True)
        self.assertIs(in_sequence(chain.without(1), tuple(tasks)), False)
        self.assertIs(in_sequence(chain.with_stock(1, 2), tuple(tasks)), False)

    def test_same_numbers(self):
        line = Line((Station("c"), A, Station("b")), (Link("b", "a"), Link("a", "c", early=True)), "c")
        self.assertIs(in_sequence(line, (("a", 4), ("b", 4))), True)
        self.assertIs(in_sequence(line, (("c", 4), ("b", 4))), True)
        self.assertIs(in_sequence(line, (("a", 4), ("c", 4))), False)
        self.assertIs(in_sequence(line, (("a", 4), ("b", 4), ("c", 4))), False)
        self.assertIs(in_sequence(line, (("a", 4), ("c", 5))), True)
        self.assertIs(in_sequence(line, (("a", 5), ("c", 4))), False)

    def test_few_tasks(self):
        self.assertIs(in_sequence(LOOP, ()), True)
        self.assertIs(in_sequence(LOOP, (("b", 5),)), True)

    def test_great_numbers(self):
        far = 10 ** 39
        self.assertIs(in_sequence(LOOP, (("b", 1), ("b", far))), True)
        self.assertIs(in_sequence(LOOP, (("b", far), ("b", far - 1))), False)
        self.assertIs(in_sequence(LOOP, (("b", far), ("b", far - 2))), True)
        odd = single_line("a", (("a", "a", 2),))
        self.assertIs(in_sequence(odd, (("a", 2), ("a", far))), True)
        self.assertIs(in_sequence(odd, (("a", 1), ("a", far))), False)

    def test_wrong_lines(self):
        for wrong in NO_LINES:
            self.assertIs(raised(NotALine, in_sequence, wrong, None).given, wrong)

    def test_no_tuple(self):
        for wrong in (None, True, 0, "", "a", b"a", [], [("a", 1)], {}, {("a", 1): 1}, {("a", 1)}, object(), Odd(), A):
            self.assertIsNone(raised(InvalidTasks, in_sequence, LOOP, wrong).index)
            self.assertIsNone(raised(InvalidTasks, in_sequence, tasks=wrong, line=LOOP).index)

    def test_first_wrong_index(self):
        good = (("a", 1), ("b", 1), ("a", 2), ("b", 10 ** 39))
        for wrong in (
            None, True, 1, "a", "a1", b"a1", (), ("a",), ("a", 1, 1), ["a", 3], {"a": 3}, ("a", 0), ("a", -1),
            ("a", True), ("a", None), ("a", "3"), ("a", (3,)), ("a", [3]), (1, "a"), ("c", 1), ("d", 1), ("ab", 1),
            ("A", 1), ("", 1), (None, 1), (b"a", 1), (["a"], 1), (("a",), 1), (Odd(), 3), ("a", Odd()), Odd(), object(),
            (A, 1), A, LOOP,
        ):
            for at in range(5):
                tasks = good[:at] + (wrong,) + good[at:] + (("a", 1),)
                self.assertEqual(raised(InvalidTasks, in_sequence, LOOP, tasks).index, at)

    def test_equal_tasks(self):
        tasks = (("a", 1), ("b", 1), ("a", 2))
        for at, task in enumerate(tasks):
            for to in range(at + 1, 4):
                self.assertEqual(raised(InvalidTasks, in_sequence, LOOP, tasks[:to] + (task, None)).index, to)


if __name__ == "__main__":
    unittest.main()
