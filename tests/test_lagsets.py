import itertools
import random
import unittest

from owntimes.errors import InvalidNumber, InvalidNumbers, InvalidPeriod, InvalidText
from owntimes.lagsets import Lags
from tests import oracle
from tests.drawn import random_parts
from tests.wrong import NO_INTEGERS, Odd, raised


class MadeTest(unittest.TestCase):
    def check_parts(self, single, again, period):
        lags = Lags(single, again, period)
        settled = max((0, *[number + 1 for number in single], *again))
        mask = oracle.mask_of(single, again, period, settled + 2 * period + 80)
        start, least = oracle.least_form(mask, settled, period)
        members = tuple(number for number in range(start + least) if mask >> number & 1)
        self.assertEqual((lags.start, lags.period, lags.members), (start, least, members))
        self.assertEqual(lags.first, min([*single, *again], default=None))
        self.assertIs(lags.endless, bool(again))
        self.assertIs(bool(lags), bool(single or again))
        self.assertEqual(str(lags), oracle.text_of(mask, start, least))
        self.assertEqual(repr(lags), f"Lags('{lags}')")
        self.assertIs(type(lags.members), tuple)
        shown = settled + period + 60
        self.assertEqual([number in lags for number in range(shown)], [bool(mask >> n & 1) for n in range(shown)])
        self.assertEqual(lags.upto(shown), tuple(number for number in range(shown + 1) if mask >> number & 1))

    def test_all_small_sets(self):
        for period in range(1, 6):
            for chosen in range(1 << 9):
                single = tuple(number for number in range(4) if chosen >> number & 1)
                again = tuple(number for number in range(5) if chosen >> 4 + number & 1)
                self.check_parts(single, again, period)

    def test_random_sets(self):
        chance = random.Random(1)
        for _ in range(1500):
            self.check_parts(*random_parts(chance))
        for _ in range(60):
            self.check_parts(*random_parts(chance, 1001, range(1, 61)))

    def test_bounds(self):
        self.check_parts((0, 1000), (0, 1000), 60)
        self.check_parts((1000,), (), 60)
        self.check_parts((), (1000,), 60)
        self.check_parts(tuple(range(1001)), (), 1)
        self.check_parts((), tuple(range(1001)), 59)

    def test_by_default_and_by_name(self):
        self.assertEqual(str(Lags()), "none")
        self.assertEqual(str(Lags((2, 0))), "0 2")
        self.assertEqual(str(Lags((), (2, 0))), "0+1")
        self.assertEqual(str(Lags(again=(3,))), "3+1")
        self.assertEqual(str(Lags(period=7)), "none")
        self.assertEqual(str(Lags(period=7, again=(3,), single=(1,))), "1 3+7")
        self.assertEqual(Lags((1,), (3,), 7), Lags(period=7, again=(3,), single=(1,)))

    def test_empty_and_finite(self):
        empty, single = Lags(), Lags((4,))
        self.assertEqual((empty.start, empty.period, empty.members, empty.first), (0, 1, (), None))
        self.assertEqual((single.start, single.period, single.members, single.first), (5, 1, (4,), 4))
        self.assertEqual((empty.endless, single.endless, bool(empty), bool(single)), (False, False, False, True))

    def test_same_set_in_other_words(self):
        few = Lags((0, 3), (5, 7), 2)
        for other in (
            Lags((3, 0, 0), (7, 5), 2), Lags((0, 3, 5, 9), (5,), 2), Lags((0,), (3,), 2),
            Lags((0,), (3, 5), 4), Lags((0, 3), (7, 5, 9), 6), Lags(again=(3,), single=(0, 0), period=2),
        ):
            self.assertEqual((other, str(other), other.start, other.period), (few, "0 3+2", 2, 2))
            self.assertFalse(other != few)

    def test_unlike_sets(self):
        sets = [Lags(), Lags((0,)), Lags((1,)), Lags((), (0,)), Lags((), (1,)), Lags((), (0,), 2), Lags((0,), (3,), 2)]
        for one, other in itertools.permutations(sets, 2):
            self.assertFalse(one == other)
            self.assertTrue(one != other)

    def test_other_values_beside_equals(self):
        for lags in (Lags(), Lags((1,)), Lags((), (1,), 2)):
            for value in (*NO_INTEGERS, 0, 1, str(lags), repr(lags), lags.members, Lags):
                self.assertIs(lags == value, False)
                self.assertIs(value == lags, False)
                self.assertIs(lags != value, True)
            self.assertIs(lags == Odd(), False)

    def test_other_values_beside_in(self):
        for lags in (Lags((), (0,)), Lags((0, 1)), Lags((1,), (2,), 3)):
            for value in (*NO_INTEGERS, Odd(), lags, -1, -2, -(10 ** 39)):
                self.assertIs(value in lags, False)
                self.assertIs(value not in lags, True)
        self.assertTrue(10 ** 39 in Lags((), (0,), 2))
        self.assertFalse(10 ** 39 + 1 in Lags((), (0,), 2))
        self.assertFalse(10 ** 39 in Lags((0,)))

    def test_lag_sets_never_change(self):
        lags = Lags((0,), (3,), 2)
        for word in ("start", "period", "members", "first", "endless"):
            with self.assertRaises(AttributeError):
                setattr(lags, word, 1)
        self.assertEqual(lags, Lags((0,), (3,), 2))

    def test_all_stands_in_the_class_itself(self):
        for word in (
            "__init__", "read", "start", "period", "members", "first", "endless", "__or__", "__and__", "__sub__",
            "__add__", "within", "shifted", "upto", "__contains__", "__eq__", "__bool__", "__str__", "__repr__",
        ):
            self.assertIn(word, vars(Lags))
        self.assertEqual((Lags.__module__, Lags.__name__), ("owntimes.lagsets", "Lags"))


class RefusedTest(unittest.TestCase):
    def test_no_tuple(self):
        for value in (None, True, 0, 5, "", "01", b"01", [], [1], {}, {1: 1}, set(), range(3), object(), Lags(), Odd()):
            self.assertIsNone(raised(InvalidNumbers, Lags, value).index)
            self.assertIsNone(raised(InvalidNumbers, Lags, (), value).index)
            self.assertIsNone(raised(InvalidNumbers, Lags, again=value).index)
            self.assertIsNone(raised(InvalidNumbers, Lags, value, (-1,), 0).index)

    def test_first_wrong_index(self):
        for wrong in (*NO_INTEGERS, Odd(), Lags(), -1, 1001, -(10 ** 39), 10 ** 39):
            for at in range(4):
                numbers = (0, 1000, 0, 7)[:at] + (wrong,) + (3, -1)
                self.assertEqual(raised(InvalidNumbers, Lags, numbers).index, at)
                self.assertEqual(raised(InvalidNumbers, Lags, (), numbers).index, at)
                self.assertEqual(raised(InvalidNumbers, Lags, again=numbers, period=0).index, at)

    def test_order_of_arguments(self):
        self.assertEqual(raised(InvalidNumbers, Lags, (0, -1), (1, 2, -1), 0).index, 1)
        self.assertEqual(raised(InvalidNumbers, Lags, (0, 1), (1, 2, -1), 0).index, 2)
        self.assertEqual(raised(InvalidNumbers, Lags, (0, -1), [], 0).index, 1)
        self.assertEqual(raised(InvalidNumbers, Lags, period=0, again=(-1,), single=(0, 0, -1)).index, 2)
        self.assertEqual(raised(InvalidPeriod, Lags, (0, 1), (1, 2), 0).given, 0)

    def test_period(self):
        for wrong in (*NO_INTEGERS, Odd(), Lags(), 0, -1, 61, 10 ** 39):
            self.assertIs(raised(InvalidPeriod, Lags, (), (), wrong).given, wrong)
            self.assertIs(raised(InvalidPeriod, Lags, period=wrong).given, wrong)
        self.assertEqual((Lags((), (0,), 1).period, Lags((), (0,), 60).period), (1, 60))


class UptoTest(unittest.TestCase):
    def test_bounds(self):
        odd = Lags((), (1,), 2)
        self.assertEqual((odd.upto(0), odd.upto(1), odd.upto(limit=4)), ((), (1,), (1, 3)))
        self.assertEqual(odd.upto(5000), tuple(range(1, 5001, 2)))
        self.assertEqual((Lags().upto(5000), Lags((0,)).upto(0), Lags((1000,)).upto(5000)), ((), (0,), (1000,)))

    def test_wrong_limits(self):
        for wrong in (*NO_INTEGERS, Odd(), -1, 5001, 10 ** 39):
            self.assertIs(raised(InvalidNumber, Lags((1,)).upto, wrong).given, wrong)
            self.assertIs(raised(InvalidNumber, Lags().upto, limit=wrong).given, wrong)


class ReadTest(unittest.TestCase):
    def test_texts_of_sets(self):
        chance = random.Random(2)
        for at in range(1500):
            lags = Lags(*(random_parts(chance) if at else ((), (), 1)))
            found = Lags.read(str(lags))
            self.assertEqual((found, str(found), found.start, found.period), (lags, str(lags), lags.start, lags.period))
            self.assertIs(type(found), Lags)
        self.assertEqual(Lags.read(text="0 3+2"), Lags((0,), (3,), 2))
        self.assertEqual(Lags.read("none"), Lags())

    def test_all_short_texts(self):
        # What a text with these signs can tell is a set with numbers up to 21 or, with `+`, up to 212 and 12.
        known = {}
        for period in range(1, 23):
            for again in range(0, 213):
                known[str(Lags((), (again,), min(period, 60)))] = True
        for many in (0, 1, 2, 3):
            for single in itertools.product((0, 1, 2, 10, 11, 12, 20, 21, 22), repeat=many):
                for again in ((), (0,), (1,), (2,), (0, 1), (0, 2), (1, 2)):
                    for period in (1, 2):
                        known[str(Lags(single, again, period))] = True
        for many in range(6):
            for signs in itertools.product("012+ ", repeat=many):
                text = "".join(signs)
                try:
                    found = Lags.read(text)
                except InvalidText as error:
                    self.assertIs(error.given, text)
                    self.assertNotIn(text, known)
                else:
                    self.assertEqual(str(found), text)

    def test_start_and_period_up_to_1000(self):
        for text, start, period in (
            ("998", 999, 1), ("999+1", 999, 1), ("0+1000", 0, 1000), ("999+1000", 0, 1000), ("0 2+998", 1, 998),
            ("0+61", 0, 61), ("60+61", 0, 61), ("62+61", 2, 61), ("938 939+61", 939, 61),
            ("499 998+500", 500, 500), ("499+500", 0, 500), ("0 2 3+997", 3, 997),
        ):
            found = Lags.read(text)
            self.assertEqual((found.start, found.period, str(found)), (start, period, text))
        for text in (
            "999", "1000", "1000+1", "0+1001", "1000+1000", "0 2 3+998", "0 1 1000", "0 999+999", "500 999+500",
            "499 999+500", "500 998+500", "0 2 3 4+997",
            "939 940+61", "0+99999", "99999", "99999999999999999999+1", "0 1+1001",
        ):
            self.assertEqual(raised(InvalidText, Lags.read, text).given, text)

    def test_large_period_by_members(self):
        chance = random.Random(3)
        for _ in range(60):
            period = chance.randrange(61, 500)
            start = chance.randrange(1000 - period)
            single = sorted(chance.sample(range(start), min(start, 5)))
            again = sorted(chance.sample(range(start, start + period), 7))
            settled = start + period
            mask = oracle.mask_of(single, again, period, settled + 3 * period)
            text = oracle.text_of(mask, *oracle.least_form(mask, settled, period))
            found = Lags.read(text)
            self.assertEqual(str(found), text)
            self.assertEqual(oracle.mask_of_lags(found, settled + period), mask & oracle.ones(settled + period))

    def test_bent_texts(self):
        for text in (
            "", " ", "0 ", " 0", "0  1", "0\n", "\n0", "0\n1", "0\t1", "0,1", "-1", "+1", "+0", "0+", "0+-1", "0+0",
            "0 +1", "0+ 1", "0++1", "0+1+1", "00", "01", "0+01", "00+1", "1 0", "0 0", "0 1 1", "3+2 0", "0 3+2 5+2",
            "0 5+2 3", "0+2 0", "0 3+2 ", "0 3+02", "None", "NONE", "none ", " none", "none none", "none 0", "0 none",
            "0+1 1+1", "0+2 1+2", "0 1+1", "0 2+2", "0+2 2+2", "0+4 2+4", "0 3 5+2", "0+2 1+3", "0+3 1+2", "0+2 1",
            "1+2 0+2", "0 3+2 4+3", "a", "0a", "0x1", "1e1", "1_0", "1.0", "(0)", "Lags('0')", "0;1", "0+1 1+0",
            "0+0 1+1", "1+1 0", "2 1+1", "1+0",
        ):
            self.assertEqual(raised(InvalidText, Lags.read, text).given, text)

    def test_not_the_least_start_or_period(self):
        chance = random.Random(4)
        for _ in range(800):
            single, again, period = random_parts(chance)
            settled = max((0, *[number + 1 for number in single], *again)) + chance.randrange(3)
            by = period * chance.randrange(1, 3)
            mask = oracle.mask_of(single, again, period, settled + by + 1)
            text = oracle.text_of(mask, settled, by)
            if text == str(Lags(single, again, period)):
                self.assertEqual(str(Lags.read(text)), text)
            else:
                self.assertIs(raised(InvalidText, Lags.read, text).given, text)

    def test_no_strings(self):
        for value in (None, True, 0, 1, b"0", b"none", (), ("0",), ["0"], {}, object(), Lags(), Odd(), str):
            self.assertIs(raised(InvalidText, Lags.read, value).given, value)
            self.assertIs(raised(InvalidText, Lags.read, text=value).given, value)


if __name__ == "__main__":
    unittest.main()
