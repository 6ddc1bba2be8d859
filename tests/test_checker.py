"""What the checker accepts, held against the words of point 22, for certificates put otherwise in each place."""

import random
import unittest

from owntimes import checker
from owntimes.certificates import certify_at_once, certify_later, certify_never_later
from owntimes.checker import accepts
from owntimes.comparing import times_of
from owntimes.lines import Line, Link, Station
from owntimes.moments import end, under_way
from tests.drawn import joined, random_free_line, random_pair, random_times
from tests.judge import judge
from tests.wrong import NO_INTEGERS, Odd

CHAIN = Line((Station("a"), Station("b")), (Link("a", "b"),), "b")
SINGLE = CHAIN.with_link(Link("b", "a", 1))
STUCK = CHAIN.with_link(Link("b", "a"))
GATE = Station("g", 3, timed=False)
WIDE = Line((Station("b", None), Station("a", 2), GATE), (Link("a", "b"), Link("b", "b", 2)), "b")
WORK_A, WORK_B, HAND_A, HAND_B = ("work", "a"), ("work", "b"), ("hand", "a"), ("hand", "b")
LINES = (CHAIN, SINGLE, WIDE)
ANY = (
    *NO_INTEGERS, Odd(), 0, 1, -1, 2, 20000, 10 ** 39, "a", "work", "hand", "later", str(CHAIN), ("a", 1), ((),),
    ((), ()), (1, ()), (1, (("a", 1),)), ((1,),), [()], {"a": ()}, CHAIN, accepts, slice(0, 1), (None,), (Odd(),),
    (Odd(), Odd()),
)


def drawn_values(chance, value):
    """Something in the place of a value: of another kind, or a little different."""
    found = [chance.choice(ANY)]
    if type(value) is int:
        found += [value + 1, value - 1, str(value), bool(value), (value,), -value, value + 5]
    elif type(value) is str:
        found += [value + "a", value[:-1], value.upper(), value.encode(), value + "\n", (value,), [value]]
        found += [chance.choice(("a", "b", "c", "work", "hand", "later", "never later"))]
    elif type(value) is tuple:
        found += [list(value), value + (chance.choice(ANY),), value[::-1], value + value[-1:], value[1:], value[:-1]]
        if len(value) > 1:
            at = chance.randrange(len(value) - 1)
            found += [value[:at] + (value[at + 1], value[at]) + value[at + 2:], value[:at] + value[at + 1:]]
    return chance.choice(found)


def put_otherwise(chance, value):
    """The value with one place, however deep in it, put otherwise."""
    if type(value) is tuple and value and chance.random() < 0.85:
        at = chance.randrange(len(value))
        return value[:at] + (put_otherwise(chance, value[at]),) + value[at + 1:]
    return drawn_values(chance, value)


class Judged(unittest.TestCase):
    def check(self, claim, certificate, expected):
        self.assertIs(accepts(claim, certificate), expected, (claim, certificate))
        self.assertIs(judge(claim, certificate), expected, (claim, certificate))
        self.assertIs(accepts(certificate=certificate, claim=claim), expected)


class PutOtherwiseTest(Judged):
    def pairs(self, chance):
        """Claims and certificates of this package, of each word."""
        one, other = random_pair(chance, stations=3, links=5, stock=2)
        if chance.random() < 0.4 and one.names == other.names:
            one, other = joined(one), joined(other)
        found = [certify_later(one, other, chance.randint(0, 2)), certify_never_later(one, other)]
        found += [certify_at_once(one, chance.randint(0, 5)), certify_at_once(other, chance.randint(1, 9))]
        return [pair for pair in found if pair is not None]

    def test_one_place_put_otherwise(self):
        chance, seen = random.Random(131), {}
        for _ in range(150):
            for claim, certificate in self.pairs(chance):
                self.check(claim, certificate, True)
                for _ in range(12):
                    if chance.random() < 0.3:
                        new = put_otherwise(chance, claim), certificate
                    else:
                        new = claim, put_otherwise(chance, certificate)
                    found = accepts(*new)
                    self.assertIs(found, judge(*new), new)
                    seen[claim[0], found] = seen.get((claim[0], found), 0) + 1
        self.assertEqual(len(seen), 8, seen)
        self.assertGreater(min(seen.values()), 3, seen)

    def test_certificates_of_other_claims(self):
        chance, seen = random.Random(132), [0, 0]
        for _ in range(60):
            pairs = self.pairs(chance)
            for claim, _ in pairs:
                for _, certificate in pairs:
                    found = accepts(claim, certificate)
                    self.assertIs(found, judge(claim, certificate), (claim, certificate))
                    seen[found] += 1
                for word in ("later", "at once", "not at once", "never later"):
                    for _, certificate in pairs:
                        new = (word, *claim[1:])
                        self.assertIs(accepts(new, certificate), judge(new, certificate), (new, certificate))
        self.assertGreater(min(seen), 100)

    def test_values_of_any_kind(self):
        pairs = [
            certify_later(SINGLE, CHAIN), certify_never_later(CHAIN, SINGLE), certify_at_once(CHAIN, 2),
            certify_at_once(CHAIN, 3),
        ]
        for claim, certificate in pairs:
            self.check(claim, certificate, True)
            for value in ANY:
                self.assertIs(accepts(value, certificate), False)
                self.assertIs(accepts(value, value), False)
                self.assertIs(accepts(claim, value), judge(claim, value), (claim, value))
                for at in range(len(claim)):
                    new = claim[:at] + (value,) + claim[at + 1:]
                    self.assertIs(accepts(new, certificate), judge(new, certificate), (new, certificate))
                for new in (claim + (value,), claim[:-1], list(claim), (claim,), (value, *claim)):
                    self.assertIs(accepts(new, certificate), False)

    def test_what_is_accepted_is_true_in_plays(self):
        chance, seen = random.Random(133), {}
        for _ in range(60):
            for claim, certificate in self.pairs(chance):
                for _ in range(6):
                    new = claim, put_otherwise(chance, certificate)
                    new = chance.choice((new, (put_otherwise(chance, claim), certificate), (claim, certificate)))
                    if accepts(*new):
                        self.held(chance, *new)
                        seen[claim[0]] = seen.get(claim[0], 0) + 1
        self.assertEqual(len(seen), 4)

    def held(self, chance, claim, certificate):
        line = Line.read(claim[1])
        times = random_times(chance, line, 8, 4)
        if claim[0] == "later":
            number = certificate[0]
            if number <= 1000:
                times = times_of(certificate)
                self.assertGreater(end(line, times, number), claim[3] * end(Line.read(claim[2]), times, number))
        elif claim[0] == "never later":
            self.assertLessEqual(end(line, times, 8), end(Line.read(claim[2]), times, 8))
        elif claim[0] == "at once":
            last = max([k for _, k in certificate], default=1)
            if last <= 1000:
                self.assertEqual(under_way(line, dict.fromkeys(certificate, 1), last, 0), certificate)
        else:
            for moment in range(8):
                self.assertLessEqual(len(under_way(line, times, 8, moment)), claim[2])


class LaterTest(Judged):
    def claim(self, one=SINGLE, other=CHAIN, bound=1):
        return ("later", str(one), str(other), bound)

    def test_cases(self):
        case = (2, (("b", 1), ("a", 2)))
        self.check(self.claim(), case, True)
        self.check(self.claim(bound=0), case, True)
        self.check(self.claim(bound=2), case, False)
        self.check(self.claim(CHAIN, SINGLE), case, False)
        self.check(self.claim(CHAIN, SINGLE, 0), case, True)
        self.check(self.claim(), (2, (("a", 2), ("b", 1))), False)
        self.check(self.claim(), (2, (("b", 1), ("b", 1), ("a", 2))), False)
        self.check(self.claim(), (1, case[1]), False)
        self.check(self.claim(), (3, case[1]), True)
        self.check(self.claim(), (3, (("b", 1), ("a", 2), ("a", 3))), True)
        self.check(self.claim(), (3, (("a", 1), ("b", 1), ("a", 2), ("a", 3))), True)
        self.check(self.claim(bound=2), (3, (("a", 1), ("b", 1), ("a", 2), ("b", 2))), False)
        self.check(self.claim(), (2, (("b", 1), ("a", 2), ("a", 3))), True)
        for wrong in (case[1], (2,), (*case, ()), (2, list(case[1])), (2, case[1][0]), (2, ()), (2, (("b", 1),)), None):
            self.check(self.claim(), wrong, False)
        self.check(self.claim(), [*case], False)

    def test_tasks_that_no_line_has(self):
        self.check(self.claim(), (2, (("b", 1), ("zz", 1), ("a", 2))), True)
        self.check(self.claim(), (2, (("b", 1), ("a", 2), ("a", 10 ** 39))), True)
        self.check(self.claim(), (2, (("b", 1), ("Z", 1), ("a", 2))), False)
        self.check(self.claim(), (2, (("b", 1), ("a", 2), ("zz", 0))), False)

    def test_numbers(self):
        found = {1: False, 2: True, 20000: True, 20001: False, 0: False, -1: False, 10 ** 39: False}
        for number, found in (*found.items(), (True, False), (None, False), ("2", False)):
            self.assertIs(accepts(self.claim(), (number, (("b", 1), ("a", 2)))), found)
        one, other = joined(CHAIN), joined(CHAIN).with_hands("a", 2)
        for number in (1, 2, 19999):
            case = (number + 1, (("a", number), ("a", number + 1)))
            self.assertIs(accepts(self.claim(one, other), case), True)
            self.assertIs(accepts(self.claim(one, other), (number, case[1])), False)
        self.assertIs(accepts(self.claim(one, other), (20001, (("a", 20000), ("a", 20001)))), False)
        # One task at the number 1 is enough where the other line does not have it.
        self.check(self.claim(CHAIN, Line((Station("x"),), (), "x")), (1, (("a", 1),)), True)

    def test_bounds(self):
        for bound in (*NO_INTEGERS, Odd(), -1, -(10 ** 39)):
            self.assertIs(accepts(self.claim(bound=bound), (2, (("b", 1), ("a", 2)))), False)
        bare = Line((Station("x"),), (), "x")
        self.assertIs(accepts(self.claim(CHAIN, bare, 10 ** 39), (1, (("a", 1),))), True)
        self.assertIs(accepts(self.claim(bound=10 ** 39), (2, (("b", 1), ("a", 2)))), False)

    def test_texts(self):
        case, text = (2, (("b", 1), ("a", 2))), str(SINGLE)
        for wrong in (
            str(STUCK), text + "\n", "\n" + text, text.replace("1", "01", 1), "", text[:-1], text.encode(), SINGLE,
            None, text.replace("outlet b", "outlet c"), text.replace("stock 1", "stock 6"), text.upper(),
        ):
            self.check(("later", wrong, str(CHAIN), 1), case, False)
            self.check(("later", text, wrong, 1), case, False)
        self.check(("later", text, text, 1), case, False)
        self.check(("later", text, text, 0), case, True)


class AtOnceTest(Judged):
    def test_tasks(self):
        claim = ("at once", str(WIDE), 4)
        tasks = (("b", 1), ("b", 2), ("a", 8), ("a", 9))
        self.check(claim, tasks, True)
        for other in (
            tasks[:3], tasks + (("a", 10),), tasks[::-1], tasks[:3] + tasks[2:3], tasks[:1] + tasks[2:] + (("b", 9),),
            (("b", 1), ("b", 2), ("a", 7), ("a", 9)), (("b", 1), ("b", 3), ("a", 8), ("a", 9)), list(tasks),
            (("a", 1), ("b", 1), ("b", 2), ("a", 2)), (("a", 1), ("b", 1), ("a", 2), ("b", 2)), (("g", 1), *tasks[1:]),
            (("x", 1), *tasks[1:]), (("b", 0), *tasks[1:]), (("b", True), *tasks[1:]), (None, *tasks[1:]), None, (),
        ):
            self.check(claim, other, False)
        for many in (0, 3, 5, -4, "4", True, None, 10 ** 39):
            self.check(("at once", str(WIDE), many), tasks, False)
        self.check(("at once", str(STUCK), 4), tasks, False)
        self.check(("at once", str(CHAIN), 4), tasks, False)

    def test_none_at_all(self):
        for line in LINES:
            self.check(("at once", str(line), 0), (), True)
            self.check(("at once", str(line), 1), (), False)
            self.check(("at once", str(line), 0), (("a", 1),), False)
            self.check(("at once", str(line), 1), (("a", 1),), True)
        self.check(("at once", str(STUCK), 0), (), False)
        self.check(("at once", str(WIDE), 1), (("g", 1),), False)

    def test_numbers(self):
        free = Line((Station("a", None), Station("b", 3)), (), "b")
        for number, found in ((1, True), (19999, True), (20000, True), (20001, False), (10 ** 39, False)):
            self.assertIs(accepts(("at once", str(free), 1), (("a", number),)), found)
            self.assertIs(accepts(("at once", str(free), 2), (("a", number), ("b", number))), found)
        self.assertIs(accepts(("at once", str(free), 2), (("b", 1), ("b", 20000))), True)
        self.assertIs(accepts(("at once", str(free), 2), (("b", 1), ("b", 19999))), False)
        self.assertIs(accepts(("at once", str(free), 2), (("b", 2), ("b", 20000))), False)
        self.assertIs(accepts(("at once", str(free), 2), (("b", 19998), ("b", 20000))), True)
        self.assertIs(accepts(("at once", str(free), 2), (("b", 19997), ("b", 20000))), False)

    def test_very_many(self):
        free = Line((Station("a", None), Station("b", None)), (), "b")
        tasks = tuple((name, k) for k in range(1, 20001) for name in "ab")
        self.assertIs(accepts(("at once", str(free), 40000), tasks), True)
        self.assertIs(accepts(("at once", str(free), 39999), tasks), False)
        self.assertIs(accepts(("at once", str(free.with_link(Link("a", "b", 5))), 40000), tasks), False)


class NotAtOnceTest(Judged):
    def claim(self, most, line=WIDE):
        return ("not at once", str(line), most)

    def test_ways(self):
        ways = ((WORK_A, HAND_A), (WORK_B, 1))
        self.check(self.claim(4), ways, True)
        self.check(self.claim(5), ways, True)
        self.check(self.claim(10 ** 39), ways, True)
        for most in (3, 0, -1, None, "4", True):
            self.check(self.claim(most), ways, False)
        self.check(self.claim(4), ways[::-1], True)
        self.check(self.claim(4), ((HAND_A, WORK_A), (1, WORK_B)), True)
        self.check(self.claim(6), ways + ways[:1], True)
        self.check(self.claim(5), ways + ways[:1], False)
        self.check(self.claim(6), ((WORK_A, HAND_A, WORK_A, HAND_A), (WORK_B, 1)), True)
        self.check(self.claim(7), (*ways, (("work", "g"), ("hand", "g"))), True)
        self.check(self.claim(6), (*ways, (("work", "g"), ("hand", "g"))), False)

    def test_ways_that_are_none(self):
        for ways in (
            (), ((WORK_A, HAND_A),), ((WORK_B, 1),), ((WORK_A, HAND_A), (WORK_B, 1), ()), ((WORK_A, HAND_A), (WORK_B,)),
            ((WORK_A, HAND_A), (WORK_B, HAND_B)), ((WORK_A, HAND_A), (WORK_B, 0)), ((WORK_A, HAND_A), (WORK_B, 2)),
            ((WORK_A, HAND_A), (WORK_B, -1)), ((WORK_A, HAND_A), (WORK_B, True)), ((WORK_A, HAND_A), [WORK_B, 1]),
            [(WORK_A, HAND_A), (WORK_B, 1)], ((WORK_A, HAND_A), (("work", "x"), 1)), ((WORK_A, HAND_A), (Odd(), Odd())),
            ((WORK_A, HAND_A), (("way", "b"), 1)), ((WORK_A, HAND_A), (["work", "b"], 1)), (WORK_A, HAND_A),
            ((WORK_A, HAND_A), (("work", "b", 1), 1)),
            ((WORK_A, HAND_A), (("work",), 1)), ((WORK_A, HAND_A), ("work", 1)), ((WORK_A, HAND_A), (Odd(), 1)),
            ((WORK_A, HAND_A), (1, 1)), ((WORK_A, WORK_A, HAND_A), (WORK_B, 1)), ((WORK_A, HAND_A), (WORK_B, 1, None)),
            ((WORK_A, 0, WORK_B, 1),), ((WORK_A, HAND_A), (("work", Odd()), 1)), ((WORK_A, HAND_A), ((Odd(), "b"), 1)),
            None, 4, "work", (None,), ((WORK_A, HAND_A), 1), ((WORK_A, HAND_A), (WORK_B, 10 ** 39)),
        ):
            self.check(self.claim(100), ways, False)
        self.check(self.claim(100, STUCK), ((WORK_A, HAND_A), (WORK_B, HAND_B)), False)

    def test_one_way_through_several_stations(self):
        self.check(self.claim(1, SINGLE), ((0, WORK_B, 1, WORK_A),), True)
        self.check(self.claim(0, SINGLE), ((0, WORK_B, 1, WORK_A),), False)
        self.check(self.claim(1, SINGLE), ((0, 1),), False)
        self.check(self.claim(2, SINGLE), ((0, WORK_B, 1, WORK_A, HAND_A, WORK_A),), True)
        self.check(self.claim(1, SINGLE), ((0, WORK_B, HAND_B, WORK_B, 1, WORK_A),), False)
        early = Line((Station("a", None), Station("b", None)), (Link("a", "b", early=True), Link("b", "a", 1)), "b")
        self.check(self.claim(1, early), ((0, WORK_B, 1),), False)
        self.check(self.claim(9, early), ((WORK_A, 0, WORK_B, 1),), False)
        # The work of b alone is gone through, and that is enough where a is not timed.
        bare = Line((Station("a", None, timed=False), Station("b", None)), early.links, "b")
        self.check(self.claim(1, bare), ((0, WORK_B, 1),), True)

    def test_lines_without_timed_stations(self):
        bare = Line((Station("g", 1, timed=False),), (), "g")
        self.check(self.claim(0, bare), (), True)
        self.check(self.claim(1, bare), ((("work", "g"), ("hand", "g")),), True)
        self.check(self.claim(0, bare), ((("work", "g"), ("hand", "g")),), False)


class NeverLaterTest(Judged):
    def setUp(self):
        self.claim, self.tables = certify_never_later(CHAIN, SINGLE)

    def test_tables(self):
        left, right = self.tables
        self.check(self.claim, self.tables, True)
        for wrong in (
            (left,), (left, right, right), (left, left), (right, right), (right, left), [left, right], left, (), None,
            (left[::-1], right), (left, right[::-1]), (left[:1], right), (left, right + right[:1]), (left, ()),
        ):
            self.check(self.claim, wrong, False)
        self.check(("never later", *self.claim[:0:-1]), self.tables[::-1], False)
        self.check(("never later", self.claim[1], self.claim[1]), (left, left), True)
        self.check((*self.claim, 1), self.tables, False)

    def with_rows(self, rows):
        (_, (name, old)), right = self.tables
        return (self.tables[0][0], (name, rows(old))), right

    def test_rows(self):
        rows = self.tables[0][1][1]
        self.assertEqual(rows[:2], ((("b",), ()), (("b",), ("b",))))
        self.check(self.claim, self.with_rows(lambda rows: rows + rows[-1:]), True)
        self.check(self.claim, self.with_rows(lambda rows: rows + rows[-1:] * 500), True)
        self.check(self.claim, self.with_rows(lambda rows: rows[:3]), True)
        for change in (
            lambda rows: rows[:2], lambda rows: rows[:1], lambda rows: (), lambda rows: rows[1:], list,
            lambda rows: rows[:1] + rows, lambda rows: rows[:-1] + ((("b",), ()),), lambda rows: None,
            lambda rows: rows[:-1] + ((("a", "b"), ("a", "b")),), lambda rows: rows[:-1] + ((["b"], ("b",)),),
            lambda rows: rows[:-1] + (("b", "b"),), lambda rows: rows[:-1] + ((("b",), ("b",), ()),),
            lambda rows: rows[:-1] + (Odd(),), lambda rows: rows[:-1] + ((Odd(), Odd()),),
            lambda rows: rows[:-1] + (((Odd(),), ("b",)),), lambda rows: rows[:-1] + ([("b",), ("b",)],),
        ):
            self.check(self.claim, self.with_rows(change), False)

    def test_names(self):
        (one, (name, rows)), right = self.tables
        for wrong in ("a", "c", "", None, Odd(), ("b",), b"b", 1):
            self.check(self.claim, ((one, (wrong, rows)), right), False)
        for wrong in ((name,), (name, rows, ()), [name, rows], (rows, name), None, name):
            self.check(self.claim, ((one, wrong), right), False)

    def test_as_many_rows_as_later_ones_hang_on(self):
        # With four hands a row hangs on four before it, so that at least five are needed.
        line = Line((Station("a", 4),), (), "a")
        claim, ((part,), _) = certify_never_later(line, line)
        rows = part[1]
        self.assertEqual(len([row for row in rows[:9] if row == ((), ())]), 6)
        accepted = []
        for many in range(len(rows) + 9):
            more = rows + rows[-4:] * 5
            table = ((part[0], more[:many]),)
            accepted.append(many) if accepts(claim, (table, table)) else None
            self.check(claim, (table, table), many in accepted)
        self.assertEqual(accepted[0], 9)
        bare = Line((Station("a", None), Station("g", 3, timed=False)), (), "a")
        claim, ((part,), _) = certify_never_later(bare, bare)
        for many, found in ((1, False), (3, False), (4, False), (5, True), (6, True), (40, True)):
            rows = ((("a",), ()), *[((), ())] * (many - 1))
            self.check(claim, (((part[0], rows),),) * 2, found)

    def test_lines_that_are_later(self):
        chance, seen = random.Random(134), [0, 0]
        for _ in range(120):
            one, other = random_pair(chance, stations=3, links=4, stock=3)
            tables = certify_never_later(one, one)[1][0], certify_never_later(other, other)[1][0]
            claim = ("never later", str(one), str(other))
            found = certify_never_later(one, other) is not None
            self.check(claim, tables, found)
            seen[found] += 1
        self.assertGreater(min(seen), 10)

    def test_tables_of_other_lines(self):
        chance = random.Random(135)
        for _ in range(40):
            one, other = random_pair(chance, stations=3, links=4, stock=3)
            table, less = certify_never_later(one, one)[1][0], certify_never_later(other, other)[1][0]
            self.check(("never later", str(one), str(one)), (table, less), table == less or judge(
                ("never later", str(one), str(one)), (table, less),
            ))

    def test_no_timed_stations(self):
        bare = Line((Station("g", timed=False),), (), "g")
        self.check(("never later", str(bare), str(bare)), ((), ()), True)
        self.check(("never later", str(bare), str(CHAIN)), ((), self.tables[0]), True)
        self.check(("never later", str(CHAIN), str(bare)), (self.tables[0], ()), False)


class ModuleTest(unittest.TestCase):
    def test_arguments_are_as_before(self):
        chance = random.Random(136)
        for _ in range(20):
            line = random_free_line(chance, stations=3)
            claim, certificate = certify_never_later(line, line)
            kept = repr((claim, certificate))
            self.assertIs(accepts(claim, certificate), True)
            self.assertIs(accepts(claim, certificate), True)
            self.assertEqual(repr((claim, certificate)), kept)
        self.assertEqual(checker.accepts.__module__, "owntimes.checker")


if __name__ == "__main__":
    unittest.main()
