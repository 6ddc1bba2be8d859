import random
import unittest

from owntimes.errors import InvalidNumber, NotLags, TooMany
from owntimes.lagsets import Lags
from tests import oracle
from tests.drawn import random_parts
from tests.wrong import NO_INTEGERS, Odd, raised

OPERATORS = {
    "|": lambda one, other: one | other,
    "&": lambda one, other: one & other,
    "-": lambda one, other: one - other,
    "+": lambda one, other: one + other,
}
NO_LAGS = (*NO_INTEGERS, 0, 1, -1, "none", "0", (0, 1), [Lags()], (Lags(),), {}, Lags, Odd())


def mask_of_result(sign, one, other, many):
    left, right = oracle.mask_of_lags(one, many), oracle.mask_of_lags(other, many)
    if sign == "|":
        return left | right
    if sign == "&":
        return left & right
    if sign == "-":
        return left & ~right
    return oracle.sum_mask(one, other, many)


class HeldAgainstIntegers(unittest.TestCase):
    def check(self, sign, one, other):
        """Hold one result against the integers looked at one by one; True if it is too long."""
        words = str(one), str(other)
        settled, common = oracle.room_for(one, other)
        mask = mask_of_result(sign, one, other, settled + common + 2000)
        form = oracle.least_form(mask, settled, common)
        if form is None:
            error = raised(TooMany, OPERATORS[sign], one, other)
            self.assertEqual((error.limit, str(one), str(other)), (2000, *words))
            return True
        found = OPERATORS[sign](one, other)
        self.assertIs(type(found), Lags)
        self.assertEqual((found.start, found.period), form, f"{one} {sign} {other}")
        self.assertEqual(str(found), oracle.text_of(mask, *form))
        self.assertEqual((str(one), str(other)), words)
        return False

    def check_all(self, one, other):
        settled, common = oracle.room_for(one, other)
        left, right = oracle.mask_of_lags(one, settled + common), oracle.mask_of_lags(other, settled + common)
        self.assertIs(one.within(other), left & ~right == 0, f"{one} within {other}")
        return [self.check(sign, one, other) for sign in OPERATORS]


class OperatorsTest(HeldAgainstIntegers):
    def test_all_pairs_of_small_sets(self):
        sets = {}
        for period in range(1, 4):
            for chosen in range(1 << 6):
                single = tuple(number for number in range(3) if chosen >> number & 1)
                again = tuple(number for number in range(1, 4) if chosen >> 2 + number & 1)
                lags = Lags(single, again, period)
                sets[str(lags)] = lags
        for one in sets.values():
            for other in sets.values():
                self.check_all(one, other)

    def test_integers_one_by_one(self):
        chance = random.Random(5)
        for _ in range(120):
            one, other = Lags(*random_parts(chance, 8)), Lags(*random_parts(chance, 8))
            numbers = range(150)
            left = [number for number in numbers if number in one]
            right = [number for number in numbers if number in other]
            self.assertEqual((one | other).upto(149), tuple(d for d in numbers if d in left or d in right))
            self.assertEqual((one & other).upto(149), tuple(d for d in numbers if d in left and d in right))
            self.assertEqual((one - other).upto(149), tuple(d for d in numbers if d in left and d not in right))
            sums = {a + b for a in left for b in right}
            self.assertEqual((one + other).upto(149), tuple(d for d in numbers if d in sums))
            self.assertIs(one.within(other), all(d in right for d in left))

    def test_random_pairs(self):
        chance = random.Random(6)
        for _ in range(1500):
            self.check_all(Lags(*random_parts(chance, 30)), Lags(*random_parts(chance, 30)))

    def test_random_pairs_of_great_periods(self):
        chance, long = random.Random(7), 0
        for _ in range(250):
            one = Lags(*random_parts(chance, 1001, range(30, 61)))
            other = Lags(*random_parts(chance, 400, range(30, 61)))
            long += sum(self.check_all(one, other))
        self.assertGreater(long, 100)

    def test_pairs_with_a_common_divisor(self):
        chance = random.Random(8)
        for _ in range(300):
            one = Lags(*random_parts(chance, 60, (30, 36, 40, 42, 48, 60)))
            other = Lags(*random_parts(chance, 60, (24, 30, 36, 40, 48, 54, 60)))
            self.check_all(one, other)

    def test_results_as_operands(self):
        chance = random.Random(9)
        for _ in range(150):
            parts = [Lags(*random_parts(chance, 20, (4, 6, 7, 9, 10, 25))) for _ in range(3)]
            try:
                joined = parts[0] | parts[1]
            except TooMany:
                continue
            self.check_all(joined, parts[2])
            self.check_all(parts[2], joined)

    def test_nothing_beside_something(self):
        empty, few = Lags(), Lags((0, 3), (5,), 2)
        for one, other in ((empty, few), (few, empty), (empty, empty), (few, few)):
            self.check_all(one, other)
        self.assertEqual((empty + few, empty & few, empty | few, few - few), (empty, empty, few, empty))
        self.assertEqual((empty.within(few), few.within(empty), few.within(few)), (True, False, True))
        self.assertEqual(few.within(other=few), True)

    def test_wrong_operands(self):
        for lags in (Lags(), Lags((0, 3), (5,), 2), Lags.read("0+1000")):
            for wrong in NO_LAGS:
                for sign in OPERATORS:
                    self.assertIs(raised(NotLags, OPERATORS[sign], lags, wrong).given, wrong)
                self.assertIs(raised(NotLags, lags.within, wrong).given, wrong)
                self.assertIs(raised(NotLags, lags.within, other=wrong).given, wrong)

    def test_taking_the_result_in_place(self):
        one, other = Lags((0,), (3,), 2), Lags((), (0,), 2)
        kept = one
        one |= other
        self.assertEqual((str(one), str(kept), str(other)), ("0 2+1", "0 3+2", "0+2"))


class BoundsTest(HeldAgainstIntegers):
    def check_both(self, sign, fitting, beyond):
        """The first pair's result has the start and period 2000 together, that of the second pair 2001."""
        found = OPERATORS[sign](*fitting)
        self.assertEqual(found.start + found.period, 2000)
        self.assertFalse(self.check(sign, *fitting))
        self.assertEqual(raised(TooMany, OPERATORS[sign], *beyond).limit, 2000)
        self.assertTrue(self.check(sign, *beyond))

    def test_exactly_2000(self):
        by_59, by_33 = Lags((), (0,), 59), Lags((), (0,), 33)
        self.check_both("|", (Lags((52,), (0,), 59), by_33), (Lags((53,), (0,), 59), by_33))
        self.assertEqual((by_59 & by_33).period, 1947)
        near, far = Lags((52,), (0,), 59), Lags((53,), (0,), 59)
        self.check_both("&", (near, Lags((52,), (0,), 33)), (far, Lags((53,), (0,), 33)))
        self.check_both("-", (near, by_33), (far, by_33))

    def test_exactly_2000_for_sums(self):
        by_44 = Lags((), (0,), 44)
        self.check_both("+", (Lags((), (107,), 45), by_44), (Lags((), (108,), 45), by_44))
        self.check_both("+", (Lags((1000,)), Lags((998,))), (Lags((1000,)), Lags((999,))))
        self.check_both("+", (Lags((), (999,)), Lags((), (1000,))), (Lags((), (1000,)), Lags((), (1000,))))

    def test_a_period_alone_of_2000(self):
        by_125, by_16 = Lags.read("0+125"), Lags.read("0+16")
        for sign in "|&-":
            found = OPERATORS[sign](by_125, by_16)
            self.assertEqual((found.start, found.period), (0, 2000))
            self.check(sign, by_125, by_16)
            self.assertEqual(raised(TooMany, OPERATORS[sign], Lags.read("0+667"), Lags.read("0+3")).limit, 2000)
            self.assertTrue(self.check(sign, Lags.read("0+667"), Lags.read("0+3")))

        wide = by_125 | by_16
        self.assertEqual((Lags((0,)) + wide, wide + Lags((0,))), (wide, wide))
        self.check_both("+", (Lags((15,)), wide), (Lags((16,)), wide))
        self.assertEqual(wide.shifted(15), Lags((15,)) + wide)
        self.assertEqual(raised(TooMany, wide.shifted, 16).limit, 2000)

    def test_great_periods_without_a_common_divisor(self):
        one, other = Lags.read("2 7+997"), Lags.read("0 5+991")
        self.assertEqual(self.check_all(one, other), [True] * 4)
        self.assertEqual(self.check_all(other, one), [True] * 4)
        dense = Lags.read(" ".join(f"{number}+999" for number in range(0, 998)))
        thin = Lags.read("0+1000")
        self.assertEqual(self.check_all(dense, thin), [True, True, True, False])
        self.assertEqual(self.check_all(thin, dense), [True, True, True, False])
        self.assertEqual(str(dense + thin), " ".join(f"{n}" for n in range(998)) + " 999+1")

    def test_great_periods_that_do_not_count(self):
        odd = Lags((), (1,), 2)
        one, other = Lags.read("0+998"), Lags.read("1+996")
        self.assertEqual(str(one & other), "none")
        self.assertEqual((one - other, other - one), (one, other))
        self.assertEqual(str(other | odd), "1+2")
        self.assertEqual(str(one & odd), "none")
        self.assertFalse(one.within(odd))
        self.assertTrue(other.within(odd))
        for pair in ((one, other), (other, one), (one, odd), (odd, one), (other, odd), (odd, other)):
            self.check_all(*pair)

    def test_a_late_gap_behind_many_full_numbers(self):
        # By 44 and 45, up to sums of 1891, 61 + 60 + 1891 is the last gap, and the one before it comes
        # 1980 earlier: a look at the numbers up to 2000 and some further ones does not do.
        single = tuple(number for number in range(44) if number != 16)
        for by in range(30, 61):
            one, other = Lags(single, (by + 1,), 45), Lags((*single, 44), (by,), 44)
            settled, common = oracle.room_for(one, other)
            mask = oracle.sum_mask(one, other, settled + common)
            gaps = [number for number in range(150, settled) if not mask >> number & 1]
            self.assertEqual(self.check("+", one, other), self.check("+", other, one))
            if by == 60:
                self.assertEqual(gaps, [2012])
                self.assertTrue(self.check("+", one, other))

    def test_early_sums_far_behind_that_come_otherwise(self):
        one, other = Lags((1000,), (999,), 60), Lags((*range(60), 1000))
        for pair in ((one, other), (other, one)):
            self.assertFalse(self.check("+", *pair))
        self.assertEqual(str(one + other), "999+1")

    def test_early_sums_that_are_no_others(self):
        # The sums of single members count up to their end, also far behind the first coming ones.
        chance = random.Random(12)
        for _ in range(60):
            one = Lags((chance.randrange(900, 1001), 2), (chance.randrange(1, 9),), chance.choice((40, 60)))
            other = Lags((chance.randrange(900, 1001), 6), (chance.randrange(1, 9),), chance.choice((20, 60)))
            self.check_all(one, other)

    def test_sums_of_many_kinds(self):
        chance, long = random.Random(10), 0
        for _ in range(400):
            one_by, other_by = chance.randrange(35, 61), chance.randrange(35, 61)
            one = Lags(
                tuple(number for number in range(one_by + 5) if chance.random() < 0.9),
                tuple(chance.randrange(100) for _ in range(chance.randrange(1, 3))), one_by,
            )
            other = Lags(
                tuple(number for number in range(other_by + 5) if chance.random() < 0.9),
                tuple(chance.randrange(100) for _ in range(chance.randrange(1, 3))), other_by,
            )
            long += self.check("+", one, other)
        self.assertGreater(long, 0)

    def test_sums_of_sums(self):
        # Both sets have up to 970 single integers; a set that has 0 and all its sums is its own sum.
        for one_by, other_by in ((43, 47), (41, 47), (59, 34), (60, 33), (60, 31), (45, 44)):
            by_one, by_other = Lags(again=(0,), period=one_by), Lags(again=(0,), period=other_by)
            sums = by_one + by_other
            self.assertFalse(self.check("+", sums, sums))
            self.assertEqual(sums + sums, sums)
            self.assertEqual((sums + by_one, by_other + sums), (sums, sums))
            self.check("+", sums, Lags((0, 3), (7,), 9))
            self.check("+", Lags((1, 40, 68), (), 1), sums)
            self.check("+", sums.shifted(-30), sums.shifted(-40))

    def test_sums_of_sums_at_the_bound(self):
        sums = Lags(again=(0,), period=43) + Lags(again=(0,), period=47)
        self.assertEqual((sums.start, sums.period), (1932, 1))
        self.check_both("+", (sums, Lags((67,))), (sums, Lags((68,))))
        self.check_both("+", (Lags((67,)), sums), (Lags((68,)), sums))
        self.assertFalse(self.check("+", sums, Lags((67, 68))))
        self.assertTrue(self.check("+", sums.shifted(34), sums.shifted(35)))
        self.assertEqual(raised(NotLags, lambda: sums.shifted(67) + (68,)).given, (68,))

    def test_drawn_sums_of_sums(self):
        chance, exact = random.Random(13), 0
        for _ in range(60):
            sums = []
            while len(sums) < 2:
                periods = chance.sample(range(20, 61), 2)
                parts = [Lags(tuple(chance.sample(range(90), 2)), (chance.randrange(20),), by) for by in periods]
                try:
                    sums.append(parts[0] + parts[1])
                except TooMany:
                    continue
            self.assertFalse(self.check("+", *sums))
            found = sums[0] + sums[1]
            by = 2000 - found.start - found.period
            first = min(1000, by, 2000 - sums[0].start - sums[0].period)
            if 0 <= by - first < 2000 - sums[1].start - sums[1].period and by - first < 1000:
                one, other = sums[0].shifted(first), sums[1].shifted(by - first)
                self.check_both("+", (one, other), (one, other.shifted(1)))
                exact += 1
        self.assertGreater(exact, 20)

    def test_sums_that_are_there_before_they_come(self):
        # By 499 and 497 the sums of coming members come late, but those with single members are there.
        full, thin = Lags.read(" ".join(map(str, range(498))) + " 498+499"), Lags.read("0+497")
        for pair in ((full, thin), (thin, full)):
            self.assertFalse(self.check("+", *pair))
            self.assertEqual(str(pair[0] + pair[1]), "0+1")
        chance, long = random.Random(14), 0
        for _ in range(12):
            left = sorted(chance.sample(range(1, 498), chance.randrange(1, 5)))
            single = " ".join(str(number) for number in range(498) if number not in left)
            again = " ".join(f"{498 + number}+499" for number in sorted(chance.sample(range(200), 3)))
            one = Lags.read(f"{single} {again}") if chance.random() < 0.5 else Lags.read(f"{single} 498+499")
            long += self.check("+", one, thin)
            self.check("+", thin, one)
        self.assertGreater(long, 3)

    def test_too_many_is_raised_last(self):
        wide = Lags.read("0+1000")
        for sign in OPERATORS:
            self.assertEqual(raised(NotLags, OPERATORS[sign], wide, [wide]).given, [wide])

    def test_within_is_never_too_long(self):
        one, other = Lags.read("2 7+997"), Lags.read("0 5+991")
        self.assertIs(one.within(other), False)
        self.assertIs(one.within(Lags((), (0,))), True)
        self.assertIs(Lags.read("0+999").within(Lags.read("0+333")), True)
        self.assertIs(Lags.read("0+333").within(Lags.read("0+999")), False)
        self.assertIs(Lags((999,)).within(one), False)


class ShiftedTest(unittest.TestCase):
    def check(self, lags, by):
        words = str(lags)
        settled = lags.start + abs(by)
        mask = oracle.mask_of_lags(lags, settled + 3 * lags.period + 4000)
        mask = mask << by if by > 0 else mask >> -by
        form = oracle.least_form(mask, settled, lags.period)
        if form is None:
            self.assertEqual(raised(TooMany, lags.shifted, by).limit, 2000)
        else:
            found = lags.shifted(by)
            self.assertEqual((found.start, found.period, str(found)), (*form, oracle.text_of(mask, *form)))
        self.assertEqual(str(lags), words)
        return form is None

    def test_random_sets(self):
        chance = random.Random(11)
        for _ in range(600):
            self.check(Lags(*random_parts(chance)), chance.randrange(-15, 16))
            self.check(Lags(*random_parts(chance, 1001, range(1, 61))), chance.randrange(-1000, 1001))

    def test_bounds(self):
        few = Lags((0, 3), (5,), 2)
        for by in (-1000, -999, -1, 0, 1, 999, 1000):
            self.assertFalse(self.check(few, by))
        self.assertEqual(str(Lags((1000, 999)).shifted(-1000)), "0")
        self.assertEqual(str(Lags((), (0,), 2).shifted(1)), "1+2")
        self.assertEqual((few.shifted(by=0), Lags().shifted(1000), Lags().shifted(-1000)), (few, Lags(), Lags()))

    def test_wrong_shifts(self):
        for wrong in (*NO_INTEGERS, Odd(), Lags(), -1001, 1001, 10 ** 39, -(10 ** 39)):
            for lags in (Lags(), Lags((1000,)), Lags.read("0+1000")):
                self.assertIs(raised(InvalidNumber, lags.shifted, wrong).given, wrong)
                self.assertIs(raised(InvalidNumber, lags.shifted, by=wrong).given, wrong)

    def test_exactly_2000(self):
        self.assertEqual((Lags((1000,)).shifted(998).start, Lags((1000,)).shifted(998).members), (1999, (1998,)))
        self.assertFalse(self.check(Lags((1000,)), 998))
        self.assertTrue(self.check(Lags((1000,)), 999))
        self.assertTrue(self.check(Lags((1000,)), 1000))
        self.assertFalse(self.check(Lags.read("0+1000"), 1000))
        self.assertFalse(self.check(Lags.read("999+1000"), 1))
        self.assertFalse(self.check(Lags.read("0 1+999"), 1000))
        self.assertTrue(self.check(Lags((), (999,)).shifted(999), 1000))

    def test_from_a_start_near_2000(self):
        far = Lags((1000,)).shifted(998)
        self.assertEqual(raised(TooMany, far.shifted, 1).limit, 2000)
        self.assertEqual(far.shifted(-1000).shifted(-998), Lags((0,)))
        self.assertEqual(far.upto(5000), (1998,))


if __name__ == "__main__":
    unittest.main()
