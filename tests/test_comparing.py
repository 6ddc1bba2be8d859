"""Lines compared for all times, held against all cases with one or two tasks and against plays."""

import itertools
import random
import unittest

from owntimes import comparing
from owntimes.comparing import later_case, never_later, same, times_of
from owntimes.errors import InvalidFlag, NotALine, Stuck
from owntimes.lines import Line, Link, Station
from owntimes.moments import end, whole_end
from owntimes.orders import order_lags, outlet_lags
from tests.drawn import changed_line, joined, random_free_line, random_pair, random_times
from tests.test_line_changes import NO_LINES
from tests.test_stations import NO_FLAGS
from tests.words import far_enough, least_case, least_case_is_none, least_near_case, order
from tests.wrong import raised

CHAIN = Line((Station("a"), Station("b")), (Link("a", "b"),), "b")
SINGLE = CHAIN.with_link(Link("b", "a", 1))
STUCK = CHAIN.with_link(Link("b", "a"))
STUCK_TOO = Line((Station("a"), Station("b")), (Link("b", "b"), Link("a", "a")), "b")


class Compared(unittest.TestCase):
    """Two lines compared, whichever way, and what is found held against all else that is said of them."""

    def check(self, one, other, case, whole=False):
        texts = str(one), str(other), whole
        self.assertEqual(later_case(one, other, whole=whole), case, texts)
        self.assertIs(never_later(one, other, whole=whole), case is None, texts)
        if case is not None:
            self.check_play(one, other, case, whole)
        both = case is None and never_later(other, one, whole=whole)
        self.assertIs(same(one, other, whole=whole), both)
        self.assertIs(same(other, one, whole=whole), both)
        self.assertEqual((str(one), str(other), whole), texts)

    def check_play(self, one, other, case, whole):
        number, tasks = case
        self.assertEqual((type(case), type(tasks)), (tuple, tuple))
        self.assertEqual(list(tasks), sorted(set(tasks), key=order))
        if number <= 1000:
            played = whole_end if whole else end
            left, right = (played(line, times_of(case), number) for line in (one, other))
            self.assertGreater(left, right, (str(one), str(other), case))

    def by_all_cases(self, one, other, whole):
        """What is found is the first of all cases, or there is none however far one looks."""
        case = later_case(one, other, whole=whole)
        if case is None:
            self.assertTrue(least_case_is_none(one, other, far_enough(one, other), whole), (str(one), str(other)))
            self.assertIsNone(least_case(one, other, 3, whole))
        elif case[0] <= 16:
            self.assertEqual(case, least_case(one, other, case[0], whole), (str(one), str(other)))
        self.check(one, other, case, whole)
        return case


class DrawnTest(Compared):
    def test_all_cases_of_small_lines(self):
        chance, seen = random.Random(81), {}
        for _ in range(220):
            one, other = random_pair(chance, stations=3, links=5, stock=3)
            if chance.random() < 0.4 and one.names == other.names:
                one, other = joined(one), joined(other)
            for whole in (False, True):
                case = self.by_all_cases(one, other, whole)
                kind = None if case is None else len(case[1])
                seen[kind, whole] = seen.get((kind, whole), 0) + 1
        self.assertEqual(len(seen), 6)
        self.assertGreater(min(seen.values()), 10, seen)

    def test_greater_lines(self):
        chance = random.Random(82)
        for _ in range(40):
            one, other = random_pair(chance)
            for whole in (False, True):
                self.by_all_cases(one, other, whole)

    def test_all_cases_played(self):
        """The ends in all cases with one or two tasks, by plays of both lines up to some number."""
        chance, last, later = random.Random(83), 5, 0
        for _ in range(40):
            one, other = random_pair(chance, stations=2, links=4, stock=2)
            tasks = [(name, k) for k in range(1, last + 1) for name in one.timed]
            found = []
            for many in (0, 1, 2):
                for case in itertools.combinations(tasks, many):
                    times = dict.fromkeys(case, 1)
                    found.extend([
                        (number, many, [order(task) for task in case]) for number in range(1, last + 1)
                        if end(one, times, number) > end(other, times, number)
                    ])
            case = later_case(one, other)
            if found:
                number, _, tasks = min(found)
                self.assertEqual(case, (number, tuple([(name, k) for k, name in tasks])), (str(one), str(other)))
                later += 1
            else:
                self.assertTrue(case is None or case[0] > last)
        self.assertGreater(later, 4)

    def test_ends_for_drawn_times(self):
        chance, seen = random.Random(84), 0
        for _ in range(400):
            one, other = random_pair(chance)
            for whole, played in ((False, end), (True, whole_end)):
                if never_later(one, other, whole=whole):
                    for most in (1, 3, 10 ** 20):
                        number = chance.randint(1, 14)
                        times = random_times(chance, one, number, most, 0.5)
                        self.assertLessEqual(played(one, times, number), played(other, times, number))
                    seen += str(one) != str(other)
        self.assertGreater(seen, 150)

    def test_a_line_and_itself(self):
        chance = random.Random(85)
        for _ in range(100):
            line = random_free_line(chance)
            parts = list(line.stations), list(line.links)
            for rows in parts:
                chance.shuffle(rows)
            other = Line(*map(tuple, parts), line.outlet)
            for whole in (False, True):
                self.check(line, line, None, whole)
                self.check(line, other, None, whole)

    def test_what_is_added_makes_later_or_nothing(self):
        chance, seen = random.Random(86), [0, 0]
        for _ in range(200):
            line = random_free_line(chance, links=8)
            if line.links:
                less = line.without(chance.randrange(len(line.links)))
                for whole in (False, True):
                    self.check(less, line, None, whole)
                    seen[same(less, line, whole=whole)] += 1
        self.assertGreater(min(seen), 40)


class SpecialTest(Compared):
    def test_one_task(self):
        bare = Line((Station("a"), Station("b")), (), "b")
        self.check(CHAIN, bare, (1, (("a", 1),)))
        self.check(bare, CHAIN, None)
        self.check(CHAIN, CHAIN.with_stock(0, 2), (1, (("a", 1),)))
        self.check(CHAIN.with_stock(0, 2), CHAIN, None)
        self.check(CHAIN.with_stock(0, 2), bare, (3, (("a", 1),)))
        self.check(CHAIN, CHAIN.with_outlet("a"), (1, (("b", 1),)))

    def test_two_tasks(self):
        self.check(SINGLE, CHAIN, (2, (("b", 1), ("a", 2))))
        self.check(CHAIN, CHAIN.with_hands("a", 3), (2, (("a", 1), ("a", 2))))
        self.check(CHAIN, CHAIN.with_hands("b", None), (2, (("b", 1),)))
        self.check(joined(CHAIN), joined(CHAIN.with_hands("b", None)), (2, (("b", 1), ("b", 2))))
        self.check(CHAIN.with_hands("a", 4), CHAIN.with_hands("a", 3), (5, (("a", 1), ("a", 5))))
        self.check(CHAIN.with_hands("a", 4), CHAIN.with_hands("a", 2), None)
        free = CHAIN.with_hands("a", None).with_hands("b", None)
        three = Line((*free.stations, Station("z", None, timed=False)), (Link("a", "z"), Link("b", "z")), "z")
        self.check(three.with_link(Link("a", "b")), three, (1, (("a", 1), ("b", 1))))
        self.check(three.with_link(Link("b", "a")), three, (1, (("a", 1), ("b", 1))))
        self.check(three.with_link(Link("b", "a")), three.with_link(Link("a", "b")), None)
        self.check(three.with_link(Link("b", "a", 1)), three.with_link(Link("a", "b", 1)), (2, (("b", 1),)))
        out = joined(free)
        self.check(out.with_link(Link("b", "a", 1)), out.with_link(Link("a", "b", 1)), (2, (("a", 1), ("a", 2))))
        bare = Line(free.stations, (), "b")
        out = joined(bare)
        self.check(out.with_link(Link("b", "a", 1)), out.with_link(Link("a", "b", 1)), (2, (("b", 1), ("a", 2))))

    def test_the_least_by_number_then_tasks_then_order(self):
        names = ("c", "b", "a")
        bare = Line(tuple(Station(name, None) for name in names), tuple(Link(name, "a", 1) for name in "bc"), "a")
        self.check(bare.with_stock(1, 0), bare, (1, (("c", 1),)))
        self.check(bare.with_stock(1, 0).with_stock(0, 0), bare, (1, (("b", 1),)))
        late = Line(bare.stations, (Link("b", "a", 2), Link("c", "a", 0), Link("a", "a", 2)), "a")
        self.check(late.with_stock(0, 1), late, (2, (("b", 1),)))
        self.check(late.with_stock(2, 1), late, (2, (("a", 1),)))
        self.check(late.with_stock(0, 1).with_stock(2, 1), late, (2, (("a", 1),)))
        # Two tasks at 1 come before one task at 2, and this one before two tasks at 2.
        out = joined(Line(bare.stations, (Link("a", "a", 1),), "a"))
        self.check(out.with_link(Link("c", "b")), out, (1, (("b", 1), ("c", 1))))
        late = Line((Station("z", None), *out.stations), out.links + (Link("z", "out", 2),), "out")
        later = late.with_stock(4, 1)
        self.check(later, late, (2, (("z", 1),)))
        self.check(later.with_link(Link("c", "b")), late, (1, (("b", 1), ("c", 1))))
        self.check(later.with_link(Link("c", "b", 1)), late, (2, (("z", 1),)))
        self.check(late.with_link(Link("c", "b", 1)), late, (2, (("c", 1), ("b", 2))))
        both = late.with_link(Link("c", "b", 1)).with_link(Link("b", "a", 1))
        self.check(both, late, (2, (("b", 1), ("a", 2))))

    def test_tasks_that_the_other_line_does_not_have(self):
        untimed = Line((Station("a", timed=False), Station("b")), (Link("a", "b"),), "b")
        other = Line((Station("x"), Station("b")), (Link("x", "b"),), "b")
        self.check(CHAIN, untimed, (1, (("a", 1),)))
        self.check(CHAIN, other, (1, (("a", 1),)))
        self.check(other, CHAIN, (1, (("x", 1),)))
        self.check(untimed, CHAIN, None)
        self.check(untimed, other, None)
        for whole in (False, True):
            self.check(Line((Station("q", timed=False),), (), "q"), CHAIN, None, whole)
        # What reaches nothing need not be there, except for whole ends.
        more = CHAIN + Line((Station("x"),), (), "x")
        self.check(more, CHAIN, None)
        self.check(more, CHAIN, (1, (("x", 1),)), whole=True)
        self.check(CHAIN, more, None, whole=True)
        self.check(more.with_link(Link("b", "x")), more, (1, (("a", 1), ("x", 1))), whole=True)
        self.check(more.with_link(Link("b", "x")), more, None)

    def test_whole_ends(self):
        turned = Line((Station("b"), Station("a")), (Link("b", "a"),), "a")
        self.check(turned, CHAIN, (2, (("b", 1), ("a", 2))), whole=True)
        self.check(turned, CHAIN, (2, (("b", 1), ("a", 2))))
        self.check(CHAIN, CHAIN.with_outlet("a"), None, whole=True)
        self.check(CHAIN.with_hands("b", 2), CHAIN, None, whole=True)
        self.check(CHAIN.with_outlet("a"), CHAIN.with_outlet("a").with_hands("b", 2), None)
        self.check(CHAIN.with_outlet("a"), CHAIN.with_outlet("a").with_hands("b", 2), (2, (("b", 1), ("b", 2))), True)

    def test_the_turned_line_up_to_a_number(self):
        chance = random.Random(87)
        for _ in range(60):
            line = random_free_line(chance, stations=4, links=6)
            if any(link.early for link in line.links):
                continue
            less = changed_line(chance, line, 1, links=6)
            if any(link.early for link in less.links):
                continue
            self.assertIs(
                never_later(line, less, whole=True), never_later(line.turned(), less.turned(), whole=True),
            )


class LateTest(Compared):
    """Lines whose lags come again late, and by unlike periods."""

    def by_near_cases(self, one, other, most):
        """The case that is found, up to a number at which all has come again."""
        case = later_case(one, other)
        last = far_enough(one, other) if case is None else case[0]
        self.assertLessEqual(last, most)
        if case is None:
            self.assertTrue(least_case_is_none(one, other, last), (str(one), str(other)))
        else:
            self.assertEqual(case, least_near_case(one, other, last), (str(one), str(other)))
        self.check(one, other, case)
        return case

    def ring_of_six(self, *seconds):
        """A ring of six stations, each link of the stock 5, and more ways from the first one to the second one."""
        names = [f"s{at}" for at in range(6)]
        links = [Link(names[at], names[(at + 1) % 6], 5) for at in range(6)]
        more = [Link("s0", "s1", stock) for stock in seconds]
        return Line(tuple(Station(name, None) for name in names), (*links, *more), "s0")

    def test_late_lags(self):
        alone, both, three = self.ring_of_six(), self.ring_of_six(4), self.ring_of_six(4, 3)
        lags = [order_lags(line, "s0", "s0") for line in (alone, both, three)]
        self.assertEqual([(found.start, found.period) for found in lags], [(1, 30), (812, 1), (392, 1)])
        for one, other in itertools.combinations((alone, both, three), 2):
            self.check(one, other, None)
        self.check(both, alone, (30, (("s0", 1),)))
        self.check(three, both, (29, (("s0", 1),)))
        self.check(both.with_hands("s3", 4), both, (20, (("s3", 1),)))
        self.check(both.with_outlet("s3"), both, (1, (("s3", 1),)))

    def test_a_late_lag_that_is_left_out(self):
        # 7, 20, 33 and so on; sums of 7 and 10 are 7 and 20, and 33 is none.
        names = ("a", "s", "t", "u", "z")
        stations = tuple(Station(name, None, timed=name == "a") for name in names)
        ways = (Link("a", "s", 5), Link("s", "z", 2))
        ring = (Link("s", "t", 5), Link("t", "u", 5), Link("u", "s", 3))
        one = Line(stations, ways + ring, "z")
        rings = (Link("s", "t", 5), Link("t", "s", 5), Link("t", "s", 2))
        other = Line(stations, (Link("a", "s"), Link("s", "z"), *rings), "z")
        self.assertEqual(str(outlet_lags(one, "a")), "7+13")
        self.assertEqual(outlet_lags(other, "a").upto(33), (0, 7, 10, 14, 17, 20, 21, 24, 27, 28, 30, 31))
        self.assertEqual(self.by_near_cases(one, other, 1000), (34, (("a", 1),)))
        self.assertEqual(self.by_near_cases(other, one, 1000), (1, (("a", 1),)))

    def parallel(self, *loops):
        """A station a, and for each loop a way from it to z over a station with a link to itself."""
        names = "bcde"[:len(loops)]
        stations = [Station("a", None)] + [Station(name, None, timed=False) for name in names] + [Station("z", None)]
        links = []
        for name, (to, loop, on) in zip(names, loops):
            links += [Link("a", name, to), Link(name, name, loop), Link(name, "z", on)]
        return Line(tuple(stations), tuple(links), "z")

    def test_unlike_periods(self):
        chance, seen = random.Random(88), {}
        for _ in range(120):
            pair = [
                self.parallel(*[(chance.randint(0, 5), chance.randint(1, 5), chance.randint(0, 5))
                                for _ in range(chance.randint(1, 4))])
                for _ in range(2)
            ]
            case = self.by_near_cases(*pair, 2000)
            number = None if case is None else min(case[0], 12)
            seen[number] = seen.get(number, 0) + 1
        self.assertGreater(len(seen), 8)
        self.assertGreater(seen[None], 5)

    def test_the_one_class_that_is_left_out(self):
        # Lags that are even or leave 0 or 1 by 3: left out are 5, 11, 17 and so on.
        most = self.parallel((0, 2, 0), (0, 3, 0), (1, 3, 0))
        self.assertEqual(str(outlet_lags(most, "a")), "0+6 1+6 2+6 3+6 4+6")
        rest = self.parallel((0, 2, 0), (0, 3, 0), (1, 3, 0), (5, 5, 1))
        self.assertEqual(self.by_near_cases(rest, most, 2000), (12, (("a", 1),)))
        self.assertIsNone(self.by_near_cases(most, rest, 2000))

    def test_far_cases(self):
        alone = self.ring_of_six().with_outlet("s5")
        self.check(alone.with_stock(0, 4), alone, (25, (("s0", 1),)))
        self.check(alone, alone.with_stock(0, 4), (26, (("s0", 1),)))
        self.check(alone.with_hands("s5", 4), alone, (5, (("s5", 1),)))


class TimesOfTest(unittest.TestCase):
    def test_times(self):
        self.assertEqual(times_of((2, (("b", 1), ("a", 2)))), {("b", 1): 1, ("a", 2): 1})
        self.assertEqual(times_of((7, ())), {})
        self.assertEqual(times_of(case=(1, (("zz", 10 ** 39),))), {("zz", 10 ** 39): 1})
        case = (3, (("a", 1), ("b", 1), ("a", 3)))
        self.assertEqual(list(times_of(case).values()), [1, 1, 1])
        self.assertEqual(case, (3, (("a", 1), ("b", 1), ("a", 3))))
        self.assertIsNot(times_of(case), times_of(case))


class RefusedTest(unittest.TestCase):
    CALLS = (never_later, later_case, same)

    def test_by_position_and_by_name(self):
        self.assertIs(never_later(other=SINGLE, one=CHAIN), True)
        self.assertEqual(later_case(whole=False, other=CHAIN, one=SINGLE), (2, (("b", 1), ("a", 2))))
        self.assertIs(same(other=SINGLE, whole=True, one=CHAIN), False)
        for call in self.CALLS:
            self.assertEqual(call.__module__, "owntimes.comparing")
            self.assertEqual(call(CHAIN, SINGLE), call(CHAIN, SINGLE, whole=False))
            with self.assertRaises(TypeError):
                call(CHAIN, SINGLE, True)
        self.assertEqual(comparing.times_of.__module__, "owntimes.comparing")

    def test_wrong_arguments_in_their_order(self):
        for call in self.CALLS:
            for wrong in NO_LINES:
                self.assertIs(raised(NotALine, call, wrong, None, whole=0).given, wrong)
                self.assertIs(raised(NotALine, call, STUCK, wrong, whole=0).given, wrong)
                self.assertIs(raised(NotALine, call, other=wrong, one=CHAIN).given, wrong)
            for wrong in NO_FLAGS:
                self.assertIs(raised(InvalidFlag, call, STUCK, STUCK, whole=wrong).given, wrong)

    def test_stuck_is_raised_last(self):
        for call in self.CALLS:
            for whole in (False, True):
                self.assertEqual(raised(Stuck, call, STUCK, CHAIN, whole=whole).ring, (0, 1))
                self.assertEqual(raised(Stuck, call, CHAIN, STUCK_TOO, whole=whole).ring, (0,))
                self.assertEqual(raised(Stuck, call, STUCK, STUCK_TOO, whole=whole).ring, (0, 1))
                self.assertEqual(raised(Stuck, call, STUCK_TOO, STUCK, whole=whole).ring, (0,))
                self.assertEqual(raised(Stuck, call, STUCK, STUCK, whole=whole).ring, (0, 1))


if __name__ == "__main__":
    unittest.main()
