"""Books: lines, claims, changes taken back, trials."""

import random
import unittest

from owntimes.books import Book
from owntimes.comparing import later_case, same
from owntimes.errors import Broken, InUse, InvalidClaim, InvalidIndex, InvalidName, NotALine, NotAsked, NothingToUndo
from owntimes.errors import Stuck, UnknownName
from owntimes.factors import factor, head_start
from owntimes.lines import Line, Link, Station
from owntimes.overlap import most_at_once
from tests import walks
from tests.drawn import changed_line, random_line
from tests.test_line_changes import NO_LINES
from tests.test_stations import NO_NAMES
from tests.words import Words
from tests.wrong import NO_INTEGERS, Odd, raised

CHAIN = Line((Station("a"), Station("b")), (Link("a", "b"),), "b")
SINGLE = CHAIN.with_link(Link("b", "a", 1))
TWICE = CHAIN.with_link(Link("a", "b"))
STUCK = CHAIN.with_link(Link("b", "a"))
STUCK_TOO = Line((Station("a"), Station("b")), (Link("b", "b"), Link("a", "a")), "b")
DELAYED = Line((*CHAIN.stations, Station("c", timed=False)), (Link("a", "b"), Link("b", "c", 2)), "c")
WIDE = CHAIN.with_hands("b", None)
LINES = (CHAIN, SINGLE, TWICE, STUCK, STUCK_TOO, DELAYED, WIDE, CHAIN.with_hands("a", 2))
NO_BOUNDS = (*NO_INTEGERS, Odd(), -1, 1001, 10 ** 39, -(10 ** 39), CHAIN)


def state(book):
    return book.names, [book[name] for name in book.names], book.claims, book.changes, len(book)


def book_of(lines, *claims):
    book = Book()
    for name, line in lines.items():
        book[name] = line
    for claim in claims:
        book.claim(claim)
    return book


class Unchanged(unittest.TestCase):
    def refused(self, kind, book, call, *rest):
        """The error that the call raises, after which the book is as before."""
        before = state(book)
        found = raised(kind, call, *rest)
        self.assertEqual(state(book), before)
        for line, kept in zip(before[1], state(book)[1]):
            self.assertIs(line, kept)
        return found

    def put(self, book, name, line):
        book[name] = line


class LinesTest(Unchanged):
    def test_an_empty_book(self):
        book = Book()
        self.assertEqual((book.names, book.claims, book.changes, len(book)), ((), (), 0, 0))
        self.assertIs(bool(book), True)
        self.assertNotIn("a", book)
        self.refused(NothingToUndo, book, book.undo)

    def test_lines_put_and_taken_away(self):
        book = Book()
        self.assertIsNone(book.__setitem__("z", CHAIN))
        book["a1"] = SINGLE
        book["m"] = STUCK
        self.assertEqual((book.names, len(book), book.changes), (("a1", "m", "z"), 3, 3))
        self.assertIs(book["z"], CHAIN)
        book["z"] = SINGLE
        self.assertIs(book["z"], SINGLE)
        self.assertEqual((book.names, len(book), book.changes), (("a1", "m", "z"), 3, 4))
        self.assertIsNone(book.remove("m"))
        self.assertEqual((book.names, len(book), book.changes), (("a1", "z"), 2, 5))
        self.assertNotIn("m", book)
        book.remove(name="z")
        book.remove("a1")
        self.assertEqual((book.names, len(book), book.changes, bool(book)), ((), 0, 7, True))

    def test_the_same_line_again_is_a_change(self):
        book = book_of({"a": CHAIN})
        book["a"] = CHAIN
        self.assertEqual((book.changes, len(book)), (2, 1))
        book.undo()
        self.assertEqual((book.changes, book["a"]), (1, CHAIN))

    def test_one_line_under_several_names(self):
        book = book_of({"a": CHAIN, "b": CHAIN}, ("same", "a", "b"), ("same", "a", "a"))
        self.assertIs(book["a"], book["b"])
        self.assertEqual(len(book.claims), 2)

    def test_wrong_names_and_lines(self):
        book = book_of({"a": CHAIN, "b": SINGLE})
        for wrong in NO_NAMES:
            self.assertIs(self.refused(InvalidName, book, self.put, book, wrong, None).given, wrong)
            self.assertIs(self.refused(InvalidName, book, self.put, book, wrong, CHAIN).given, wrong)
        for wrong in NO_LINES:
            self.assertIs(self.refused(NotALine, book, self.put, book, "a", wrong).given, wrong)
            self.assertIs(self.refused(NotALine, book, self.put, book, "c", wrong).given, wrong)
        for wrong in (*NO_NAMES, "c", "ab", 0, ("a",), CHAIN, slice(0, 1)):
            self.assertIs(self.refused(UnknownName, book, lambda: book[wrong]).given, wrong)
            self.assertIs(self.refused(UnknownName, book, book.remove, wrong).given, wrong)

    def test_in(self):
        book = book_of({"a": CHAIN, "b1": SINGLE})
        self.assertIs("a" in book, True)
        self.assertIs("b1" in book, True)
        for value in (*NO_NAMES, "b", "a1", CHAIN, SINGLE, ("a",), 0, book):
            self.assertIs(value in book, False)
            self.assertIs(value not in book, True)

    def test_in_use(self):
        claims = (("at once", "a", 9), ("never later", "b", "c"), ("same", "a", "d"), ("factor", "c", "d", 9))
        book = book_of({"a": CHAIN, "b": CHAIN, "c": SINGLE, "d": TWICE, "e": CHAIN}, *claims)
        for name, index in (("a", 0), ("b", 1), ("c", 1), ("d", 2)):
            self.assertEqual(self.refused(InUse, book, book.remove, name).index, index)
        book.remove("e")
        book.lift(1)
        self.assertEqual(self.refused(InUse, book, book.remove, "c").index, 2)
        book.remove("b")
        self.assertEqual(book.names, ("a", "c", "d"))

    def test_books_are_equal_to_themselves_alone(self):
        one, other = Book(), Book()
        self.assertIs(one == other, False)
        self.assertIs(one == one, True)
        self.assertIs(one != other, True)
        self.assertIs(one == (), False)


class ClaimsTest(Unchanged):
    def test_claims_that_hold(self):
        claims = (
            ("never later", "new", "old"), ("same", "new", "twice"), ("factor", "old", "new", 2),
            ("factor", "new", "old", 1), ("factor", "old", "new", 1000), ("head start", "late", "new", 0),
            ("head start", "new", "late", 2), ("head start", "new", "late", 1000), ("at once", "new", 2),
            ("at once", "old", 1), ("at once", "old", 1000), ("never later", "old", "old"),
        )
        book = book_of({"old": SINGLE, "new": CHAIN, "twice": TWICE, "late": DELAYED})
        for many, claim in enumerate(claims):
            self.assertIsNone(book.claim(claim))
            self.assertEqual((book.claims, book.changes), (claims[:many + 1], 5 + many))
        book.claim(claim=claims[0])
        self.assertEqual(book.claims, claims + claims[:1])

    def test_claims_that_do_not_hold(self):
        book = book_of({"old": SINGLE, "new": CHAIN, "wide": WIDE, "late": DELAYED}, ("at once", "old", 1))
        for claim, shown in (
            (("never later", "old", "new"), (2, (("b", 1), ("a", 2)))), (("factor", "old", "new", 1), 2),
            (("same", "old", "new"), later_case(SINGLE, CHAIN)), (("same", "new", "old"), later_case(SINGLE, CHAIN)),
            (("factor", "old", "new", 0), 2), (("factor", "new", "wide", 1000), None),
            (("head start", "new", "late", 0), 2), (("head start", "new", "late", 1), 2),
            (("head start", "old", "new", 1000), None), (("at once", "new", 1), 2), (("at once", "new", 0), 2),
            (("at once", "wide", 1000), None),
        ):
            error = self.refused(Broken, book, book.claim, claim)
            self.assertEqual((error.index, error.shown), (1, shown))

    def test_a_greater_head_start_that_does_not_do(self):
        stations = (Station("a", None), Station("z", 2, timed=False))
        book = book_of({"x": Line(stations, (Link("a", "z"),), "z"), "y": Line(stations, (Link("a", "z", 3),), "z")})
        for start in range(8):
            claim = ("head start", "x", "y", start)
            if start in (3, 5, 7):
                book.claim(claim)
            else:
                error = self.refused(Broken, book, book.claim, claim)
                self.assertEqual((error.index, error.shown), (len(book.claims), 3))
        self.assertEqual(self.refused(Broken, book, book.claim, ("head start", "x", "y", 1000)).shown, 3)
        book.claim(("head start", "x", "y", 999))

    def test_what_same_shows(self):
        left, right = CHAIN.with_hands("a", 2), SINGLE.with_hands("b", 2)
        book = book_of({"a": CHAIN, "b": SINGLE, "l": left, "r": right})
        for one in book.names:
            for other in book.names:
                if not same(book[one], book[other]):
                    shown = later_case(book[one], book[other])
                    if shown is None:
                        shown = later_case(book[other], book[one])
                    self.assertEqual(self.refused(Broken, book, book.claim, ("same", one, other)).shown, shown)

    def test_no_claims(self):
        book = book_of({"a": CHAIN, "b": SINGLE}, ("same", "a", "a"))
        wrongs = [
            None, True, 0, "", "same", b"same", [], ["same", "a", "b"], {}, {"same"}, object(), Odd(), CHAIN, book, (),
            ("same",), ("same", "a"), ("same", "a", "b", 1), ("same", "a", "b", "a"), ("never later", "a"),
            ("never later", "a", "b", 0), ("at once", "a"), ("at once", "a", "b", 1), ("at once", "a", 1, 1),
            ("factor", "a", "b"), ("factor", "a", "b", 1, 1), ("head start", "a", "b"), ("head start", "a", "b", 1, 1),
            ("Same", "a", "b"), ("later", "a", "b"), ("not at once", "a", 1), ("", "a", "b"), (None, "a", "b"),
            (("same",), "a", "b"), (b"same", "a", "b"), (Odd(), "a", "b"), (["same"], "a", "b"), (0, "a", "b"),
            ("same ", "a", "b"), ("neverlater", "a", "b"), (True, "a", 1), ("a", "same", "b"), ("at once", "a", "b"),
        ]
        for bound in NO_BOUNDS:
            wrongs += [("at once", "a", bound), ("factor", "a", "b", bound), ("head start", "x", "y", bound)]
        for wrong in wrongs:
            self.assertIs(self.refused(InvalidClaim, book, book.claim, wrong).given, wrong)
        self.assertIs(self.refused(InvalidClaim, book, lambda: book.claim(claim=wrongs[0])).given, None)

    def test_unknown_names(self):
        book = book_of({"a": CHAIN, "b": SINGLE})
        for wrong in (*NO_NAMES, "c", "ab", CHAIN, 0, ("a",)):
            for word, rest in (("never later", ()), ("same", ()), ("factor", (1000,)), ("head start", (0,))):
                self.assertIs(self.refused(UnknownName, book, book.claim, (word, wrong, "d", *rest)).given, wrong)
                self.assertIs(self.refused(UnknownName, book, book.claim, (word, "a", wrong, *rest)).given, wrong)
            self.assertIs(self.refused(UnknownName, book, book.claim, ("at once", wrong, 0)).given, wrong)

    def test_the_order_of_errors(self):
        book = book_of({"a": CHAIN, "s": STUCK})
        self.assertEqual(self.refused(InvalidClaim, book, book.claim, ("factor", "x", "y", 1001)).given[0], "factor")
        self.assertEqual(self.refused(UnknownName, book, book.claim, ("factor", "x", "y", 0)).given, "x")
        self.assertEqual(self.refused(UnknownName, book, book.claim, ("factor", "s", "y", 0)).given, "y")
        self.assertEqual(self.refused(NotAsked, book, book.claim, ("factor", "a", "s", 0)).index, 0)

    def test_not_asked(self):
        lines = {"a": CHAIN, "s": STUCK, "t": STUCK_TOO}
        book = book_of(lines, ("same", "a", "a"), ("at once", "a", 2))
        for claim, ring in (
            (("never later", "a", "s"), (0, 1)), (("never later", "s", "a"), (0, 1)), (("same", "a", "t"), (0,)),
            (("same", "t", "s"), (0,)), (("same", "s", "t"), (0, 1)), (("factor", "s", "s", 0), (0, 1)),
            (("factor", "a", "t", 1000), (0,)), (("head start", "t", "a", 0), (0,)), (("at once", "s", 1000), (0, 1)),
            (("head start", "a", "s", 5), (0, 1)),
        ):
            error = self.refused(NotAsked, book, book.claim, claim)
            self.assertEqual(error.index, 2)
            self.assertIs(type(error.__cause__), Stuck)
            self.assertEqual(error.__cause__.ring, ring)
        for name, ring in (("s", (0, 1)), ("t", (0,))):
            error = self.refused(NotAsked, book, self.put, book, "a", lines[name])
            self.assertEqual((error.index, error.__cause__.ring), (0, ring))

    def test_all_claims_are_asked_when_a_line_is_put(self):
        book = book_of(
            {"a": CHAIN, "b": SINGLE, "c": CHAIN},
            ("never later", "a", "b"), ("at once", "c", 2), ("factor", "b", "a", 2), ("same", "c", "a"),
        )
        error = self.refused(Broken, book, self.put, book, "b", WIDE)
        self.assertEqual((error.index, error.shown), (0, later_case(CHAIN, WIDE)))
        error = self.refused(Broken, book, self.put, book, "a", SINGLE)
        self.assertEqual((error.index, error.shown), (3, later_case(SINGLE, CHAIN)))
        error = self.refused(Broken, book, self.put, book, "c", WIDE)
        self.assertEqual((error.index, error.shown), (1, None))
        error = self.refused(NotAsked, book, self.put, book, "c", STUCK)
        self.assertEqual((error.index, error.__cause__.ring), (1, (0, 1)))
        error = self.refused(Broken, book, self.put, book, "b", CHAIN.with_stock(0, 1))
        self.assertEqual(error.index, 0)
        book["a"] = TWICE
        book["c"] = TWICE
        book["unknown"] = STUCK
        self.assertEqual((book.changes, book["a"], len(book)), (10, TWICE, 4))

    def test_the_first_that_fails_of_those_not_asked_and_broken(self):
        book = book_of({"a": CHAIN, "b": SINGLE, "c": CHAIN})
        book.claim(("at once", "c", 2))
        book.claim(("never later", "a", "b"))
        book.claim(("at once", "a", 2))
        self.assertEqual(self.refused(NotAsked, book, self.put, book, "a", STUCK).index, 1)
        self.assertEqual(self.refused(Broken, book, self.put, book, "a", WIDE).index, 2)
        book["a"] = SINGLE
        self.assertEqual(self.refused(Broken, book, book.claim, ("at once", "a", 0)).index, 3)

    def test_lifted(self):
        claims = (("at once", "a", 2), ("same", "a", "a"), ("at once", "a", 3))
        book = book_of({"a": CHAIN}, *claims)
        for wrong in (*NO_INTEGERS, Odd(), -1, 3, 4, 10 ** 39, -3, CHAIN):
            self.assertIs(self.refused(InvalidIndex, book, book.lift, wrong).given, wrong)
        self.assertIsNone(book.lift(1))
        self.assertEqual((book.claims, book.changes), ((claims[0], claims[2]), 5))
        self.assertEqual(self.refused(InvalidIndex, book, book.lift, 2).given, 2)
        book.lift(index=0)
        book.lift(0)
        self.assertEqual((book.claims, book.changes), ((), 7))
        self.assertEqual(self.refused(InvalidIndex, book, book.lift, 0).given, 0)
        book["a"] = WIDE
        self.assertEqual(book["a"], WIDE)


class UndoTest(Unchanged):
    def test_down_to_an_empty_book(self):
        book, states = Book(), [state(Book())]
        for change in (
            lambda: self.put(book, "a", CHAIN), lambda: self.put(book, "b", SINGLE),
            lambda: book.claim(("never later", "a", "b")), lambda: self.put(book, "a", CHAIN),
            lambda: self.put(book, "c", WIDE), lambda: book.lift(0), lambda: self.put(book, "b", WIDE),
            lambda: book.remove("a"), lambda: book.claim(("same", "b", "c")), lambda: self.put(book, "d", STUCK),
        ):
            change()
            states.append(state(book))
        self.assertEqual(book.changes, 10)
        while len(states) > 1:
            self.assertEqual(state(book), states.pop())
            self.assertIsNone(book.undo())
        self.assertEqual(state(book), states[0])
        for _ in range(2):
            self.refused(NothingToUndo, book, book.undo)

    def test_a_change_after_one_was_taken_back(self):
        book = book_of({"a": CHAIN, "b": SINGLE})
        book.undo()
        book["c"] = WIDE
        self.assertEqual((book.names, book.changes), (("a", "c"), 2))
        book.undo()
        book.undo()
        self.assertEqual((book.names, book.changes), ((), 0))

    def test_refused_changes_are_none(self):
        book = book_of({"a": CHAIN}, ("at once", "a", 2))
        self.refused(Broken, book, self.put, book, "a", WIDE)
        self.refused(InUse, book, book.remove, "a")
        book.undo()
        self.assertEqual((book.claims, book.changes), ((), 1))

    def test_many_changes(self):
        book = Book()
        for at in range(3000):
            book["a"] = CHAIN if at % 2 else SINGLE
        self.assertEqual((book.changes, book["a"]), (3000, CHAIN))
        for _ in range(2999):
            book.undo()
        self.assertEqual((book.changes, book["a"]), (1, SINGLE))


class Quit(BaseException):
    """No Exception."""


class TrialTest(Unchanged):
    def test_without_an_exception(self):
        book = book_of({"a": CHAIN})
        with book.trial() as found:
            self.assertIs(found, book)
            book["b"] = SINGLE
        self.assertEqual((book.names, book.changes), (("a", "b"), 2))
        with book.trial():
            pass
        self.assertEqual(book.changes, 2)

    def test_exceptions_of_any_kind_are_passed_on(self):
        for kind in (ValueError, KeyError, Broken, StopIteration, KeyboardInterrupt, SystemExit, GeneratorExit, Quit):
            error = kind(1, 2) if kind is Broken else kind("why")
            book = book_of({"a": CHAIN}, ("at once", "a", 2))
            before = state(book)
            try:
                with book.trial():
                    book["b"] = SINGLE
                    book.lift(0)
                    book["a"] = WIDE
                    book.undo()
                    raise error
            except BaseException as found:
                self.assertIs(found, error)
            else:
                self.fail("not passed on")
            self.assertEqual(state(book), before)
            book.undo()
            self.assertEqual((book.claims, book.changes), ((), 1))

    def test_an_error_of_the_book_itself(self):
        book = book_of({"a": CHAIN}, ("at once", "a", 2))
        before = state(book)

        def rows():
            with book.trial():
                book["b"] = SINGLE
                book["a"] = WIDE

        self.assertEqual(raised(Broken, rows).index, 0)
        self.assertEqual(state(book), before)

    def test_caught_within_the_rows(self):
        book = book_of({"a": CHAIN}, ("at once", "a", 2))
        with book.trial():
            book["b"] = SINGLE
            try:
                book["a"] = WIDE
            except Broken:
                book["c"] = CHAIN
        self.assertEqual((book.names, book.changes), (("a", "b", "c"), 4))

    def test_left_by_return_break_and_continue(self):
        book = book_of({"a": CHAIN})

        def by_return():
            with book.trial() as tried:
                tried["b"] = CHAIN
                return 7

        self.assertEqual((by_return(), book.names), (7, ("a", "b")))
        for name in ("c", "d"):
            with book.trial():
                book[name] = CHAIN
                if name == "c":
                    continue
                break
        self.assertEqual((book.names, book.changes), (("a", "b", "c", "d"), 4))

    def test_undo_within_a_trial_also_of_changes_from_before_it(self):
        book = book_of({"a": CHAIN, "b": SINGLE}, ("never later", "a", "b"))
        before = state(book)

        def rows(book):
            book["c"] = WIDE
            for _ in range(3):
                book.undo()
            self.assertEqual((book.names, book.claims, book.changes), (("a",), (), 1))
            book["z"] = STUCK
            book.undo()
            book.undo()
            self.assertEqual((book.names, book.changes), ((), 0))
            book.undo()

        self.assertEqual(raised(NothingToUndo, book.tried, rows).__class__, NothingToUndo)
        self.assertEqual(state(book), before)
        with book.trial():
            book.undo()
            book.undo()
        self.assertEqual((book.names, book.claims, book.changes), (("a",), (), 1))
        book.undo()
        self.refused(NothingToUndo, book, book.undo)

    def test_trials_within_trials(self):
        book = book_of({"a": CHAIN})
        with book.trial():
            book["b"] = CHAIN
            try:
                with book.trial():
                    book["c"] = CHAIN
                    with book.trial():
                        book["d"] = CHAIN
                        book.undo()
                        book.undo()
                        book.undo()
                    self.assertEqual(book.names, ("a",))
                    raise ValueError
            except ValueError:
                self.assertEqual((book.names, book.changes), (("a", "b"), 2))
            book["e"] = CHAIN
        self.assertEqual((book.names, book.changes), (("a", "b", "e"), 3))

        def rows(book):
            with book.trial():
                book["f"] = CHAIN
            with book.trial():
                book.undo()
                book["g"] = CHAIN
            raise KeyError(book.names)

        self.assertEqual(raised(KeyError, book.tried, rows).args, (("a", "b", "e", "g"),))
        self.assertEqual((book.names, book.changes), (("a", "b", "e"), 3))

    def test_it_begins_where_the_rows_begin(self):
        book = book_of({"a": CHAIN})
        trial = book.trial()
        book["b"] = CHAIN
        for _ in range(2):
            try:
                with trial:
                    book["c"] = CHAIN
                    raise Quit
            except Quit:
                self.assertEqual((book.names, book.changes), (("a", "b"), 2))

    def test_two_books(self):
        one, other = book_of({"a": CHAIN}), book_of({"b": CHAIN})
        try:
            with one.trial(), other.trial():
                one["c"] = CHAIN
                other["c"] = CHAIN
                one.undo()
                raise Quit
        except Quit:
            pass
        self.assertEqual((one.names, other.names, one.changes, other.changes), (("a",), ("b",), 1, 1))

    def test_tried(self):
        book = book_of({"a": CHAIN})

        def action(given):
            given["b"] = SINGLE
            return given, "done"

        found = book.tried(action)
        self.assertIs(found[0], book)
        self.assertEqual((found[1], book.names, book.changes), ("done", ("a", "b"), 2))
        self.assertIsNone(book.tried(action=lambda given: None))
        self.assertEqual(book.tried(lambda given: given.changes), 2)
        self.assertEqual(book.tried(lambda given: given.tried(lambda inner: inner.names)), ("a", "b"))
        self.assertEqual(raised(NothingToUndo, Book().tried, lambda given: given.undo()).__class__, NothingToUndo)
        self.assertEqual(raised(UnknownName, book.tried, lambda given: given["q"]).given, "q")


class DrawnTest(Unchanged):
    """Books changed in drawn ways, beside plain values."""

    def drawn_claim(self, chance, names):
        word = chance.choice(("never later", "same", "factor", "head start", "at once"))
        claim = (word, chance.choice(names))
        if word != "at once":
            claim += (chance.choice(names),)
        return claim if word in ("never later", "same") else claim + (chance.randint(0, 4),)

    def answer(self, lines, claim):
        """What the claim is answered: Stuck, or whether it holds and what shows it if not."""
        one, other, number = lines[claim[1]], lines.get(claim[2]), claim[-1]
        try:
            if claim[0] == "at once":
                most = most_at_once(one)
                return most is not None and most <= number, most
            if claim[0] == "factor":
                most = factor(one, other)
                return most is not None and most <= number, most
            if claim[0] == "head start":
                return self.does(one, other, number), head_start(one, other)
            if later_case(one, other) is not None or claim[0] == "never later":
                return later_case(one, other) is None, later_case(one, other)
            return later_case(other, one) is None, later_case(other, one)
        except Stuck as error:
            return error

    def does(self, one, other, start):
        least = head_start(one, other)
        if least is None or start < least:
            return False
        left, right = Words(one, 60), Words(other, 60 + start)
        return all(
            right.reaches((name, 1), number + start) for name in left.names for number in range(1, 60)
            if left.reaches((name, 1), number)
        )

    def expected(self, lines, claims):
        for at, claim in enumerate(claims):
            answer = self.answer(lines, claim)
            if isinstance(answer, Stuck):
                return NotAsked, at, answer.ring
            if not answer[0]:
                return Broken, at, answer[1]
        return None

    def change(self, book, call, lines, claims, kept):
        """Make a change that may be refused; return what is kept after it."""
        expected = self.expected(lines, claims)
        if expected is None:
            call()
            self.counts["made"] += 1
            return kept + [(lines, claims)]
        kind, index, shown = expected
        error = self.refused(kind, book, call)
        self.assertEqual(error.index, index)
        self.assertEqual(error.shown if kind is Broken else error.__cause__.ring, shown)
        self.counts[kind] += 1
        return kept

    def test_drawn_changes(self):
        chance, self.counts = random.Random(121), {"made": 0, Broken: 0, NotAsked: 0}
        for _ in range(40):
            book, kept = Book(), [({}, ())]
            for _ in range(40):
                lines, claims = kept[-1]
                kind = chance.random()
                if kind < 0.4 or not lines:
                    name = chance.choice(("a", "b", "c", "d"))
                    old = [line for line in lines.values() if not walks.is_stuck(line)]
                    line = chance.choice(LINES)
                    if old and chance.random() < 0.5:
                        line = changed_line(chance, chance.choice(old), 1) if chance.random() < 0.9 else \
                            random_line(chance, stations=2, links=3)
                    kept = self.change(book, lambda: self.put(book, name, line), {**lines, name: line}, claims, kept)
                elif kind < 0.75:
                    claim = self.drawn_claim(chance, sorted(lines))
                    kept = self.change(book, lambda: book.claim(claim), lines, claims + (claim,), kept)
                elif kind < 0.82 and claims:
                    index = chance.randrange(len(claims))
                    book.lift(index)
                    kept.append((lines, claims[:index] + claims[index + 1:]))
                elif kind < 0.9:
                    name = chance.choice(sorted(lines))
                    used = [at for at, claim in enumerate(claims) if name in claim[1:3]]
                    if used:
                        self.assertEqual(self.refused(InUse, book, book.remove, name).index, used[0])
                    else:
                        book.remove(name)
                        kept.append(({other: line for other, line in lines.items() if other != name}, claims))
                elif len(kept) > 1:
                    book.undo()
                    kept.pop()
                lines, claims = kept[-1]
                self.assertEqual(state(book), (
                    tuple(sorted(lines)), [lines[name] for name in sorted(lines)], claims, len(kept) - 1, len(lines),
                ))
        self.assertGreater(min(self.counts.values()), 20, self.counts)

    def test_all_stands_in_the_class_itself(self):
        for word in (
            "__init__", "__setitem__", "__getitem__", "remove", "claim", "lift", "undo", "names", "claims", "changes",
            "__contains__", "__len__", "trial", "tried",
        ):
            self.assertIn(word, vars(Book))
        self.assertEqual((Book.__module__, Book.__name__), ("owntimes.books", "Book"))
        for word in ("names", "claims", "changes"):
            with self.assertRaises(AttributeError):
                setattr(Book(), word, ())


if __name__ == "__main__":
    unittest.main()
