"""The examples of the document, as they stand there."""

import unittest

from owntimes.books import Book
from owntimes.certificates import certify_at_once, certify_later, certify_never_later
from owntimes.checker import accepts
from owntimes.comparing import later_case, never_later, same, times_of
from owntimes.errors import Broken
from owntimes.factors import beyond, factor, head_start
from owntimes.lagsets import Lags
from owntimes.lines import Line, Link, Station
from owntimes.matters import enough_hands, enough_stock, idle_links
from owntimes.moments import end, events, moments, under_way
from owntimes.orders import in_sequence, order_lags, outlet_lags, reaching
from owntimes.overlap import may_overlap, most_at_once, overlapping
from owntimes.stuck import rings, stuck
from owntimes.tables import table
from tests.wrong import raised


class LagsetsExamplesTest(unittest.TestCase):
    def test_examples(self):
        odd, few = Lags(again=(1,), period=2), Lags((0, 3), (5, 7), 2)
        self.assertEqual(
            [str(odd), str(few), few.members, odd.members, few.start, few.period],
            ['1+2', '0 3+2', (0, 3), (1,), 2, 2],
        )
        self.assertEqual(
            [str(odd & few), str(odd | few), str(few - odd), str(odd + odd), str(few.shifted(-3)), odd.within(few),
             9 in few, few.upto(8), Lags.read('0 3+2') == few, few.endless],
            ['3+2', '0 1+2', '0', '2+2', '0+2', False, True, (0, 3, 5, 7), True, True],
        )
        self.assertEqual(repr(few), "Lags('0 3+2')")

    def test_texts_of_point_13(self):
        few = Lags.read("0 3+2")
        self.assertEqual(few.upto(7), (0, 3, 5, 7))
        self.assertEqual((str(Lags()), Lags().start, Lags().period, Lags((4,)).period), ("none", 0, 1, 1))


class LinesExamplesTest(unittest.TestCase):
    def test_examples(self):
        chain = Line((Station("a"), Station("b")), (Link("a", "b"),), "b")
        single = chain.with_link(Link("b", "a", 1))
        self.assertEqual(
            [repr(single), single.names, len(chain), str(single.links[1]), str(Station("c", None, timed=False)),
             single.turned().links[0] == Link("b", "a")],
            ['Line of 2 stations, 2 links', ('a', 'b'), 2, 'link b -> a: stock 1', 'station c: hands any, no time',
             True],
        )
        self.assertEqual(str(chain), 'station a: hands 1\nstation b: hands 1\nlink a -> b: stock 0\noutlet b')

    def test_text_of_point_10(self):
        text = (
            "station cut: hands 1\nstation weld: hands any\nstation gate: hands 2, no time\n"
            "link cut -> weld: stock 0\nlink weld -> cut: stock 2, early\noutlet weld"
        )
        line = Line.read(text)
        self.assertEqual(str(line), text)
        self.assertEqual((line.timed, rings(line), stuck(line)), (("cut", "weld"), ((0, 1),), None))


class MomentsExamplesTest(unittest.TestCase):
    def test_examples(self):
        chain = Line((Station("a"), Station("b")), (Link("a", "b"),), "b")
        single = chain.with_link(Link("b", "a", 1))
        times = {("a", 1): 3, ("b", 1): 4, ("a", 2): 1, ("b", 2): 2}
        self.assertEqual(
            [moments(chain, times, 2), end(chain, times, 2), end(single, times, 2), under_way(chain, times, 2, 3)],
            [(((0, 3), (3, 4)), ((3, 7), (7, 9))), 9, 10, (('b', 1), ('a', 2))],
        )
        self.assertEqual(
            list(events(chain, times, 1)),
            [(0, 1, 'a', 'begin'), (3, 1, 'a', 'end'), (3, 1, 'b', 'begin'), (7, 1, 'b', 'end')],
        )


class OrdersExamplesTest(unittest.TestCase):
    def test_examples(self):
        chain = Line((Station("a"), Station("b", 2)), (Link("a", "b"), Link("b", "a", 3)), "b")
        self.assertEqual(
            [str(order_lags(chain, "a", "a")), str(order_lags(chain, "b", "b")), str(order_lags(chain, "b", "a")),
             str(outlet_lags(chain, "a")), str(outlet_lags(chain, "b"))],
            ['1+1', '2+1', '3+1', '0+1', '0 2+1'],
        )
        self.assertEqual(
            [reaching(chain, 2), in_sequence(chain, (("b", 1), ("b", 2))),
             in_sequence(chain, (("a", 1), ("b", 1), ("b", 3)))],
            [(('a', 1), ('a', 2), ('b', 2)), False, True],
        )


class OverlapExamplesTest(unittest.TestCase):
    def test_examples(self):
        chain = Line((Station("a"), Station("b", 2)), (Link("a", "b"),), "b")
        self.assertEqual(
            [most_at_once(chain), most_at_once(chain, ("b",)), most_at_once(chain.with_link(Link("b", "a", 1))),
             most_at_once(chain.with_hands("b", None)), overlapping(chain, ("a",)) is None],
            [3, 2, 1, None, False],
        )
        self.assertEqual(
            [may_overlap(chain, (("b", 1), ("b", 2), ("a", 9))), may_overlap(chain, (("b", 1), ("b", 3)))],
            [True, False],
        )


class ComparingExamplesTest(unittest.TestCase):
    def test_examples(self):
        chain = Line((Station("a"), Station("b")), (Link("a", "b"),), "b")
        single = chain.with_link(Link("b", "a", 1))
        self.assertEqual(
            [never_later(chain, single), never_later(single, chain), later_case(single, chain),
             same(chain, chain.with_link(Link("a", "b", 2)))],
            [True, False, (2, (('b', 1), ('a', 2))), True],
        )
        self.assertEqual(
            [times_of((2, (("b", 1), ("a", 2)))),
             later_case(Line((Station("b"), Station("a")), (Link("b", "a"),), "a"), chain, whole=True)],
            [{('b', 1): 1, ('a', 2): 1}, (2, (('b', 1), ('a', 2)))],
        )


class FactorsExamplesTest(unittest.TestCase):
    def test_examples(self):
        chain = Line((Station("a"), Station("b")), (Link("a", "b"),), "b")
        single = chain.with_link(Link("b", "a", 1))
        self.assertEqual(
            [factor(single, chain), factor(chain, single), factor(chain, chain.with_hands("b", None)),
             beyond(single, chain, 2), head_start(single, chain)],
            [2, 1, None, None, None],
        )
        delayed = Line(
            (Station("a"), Station("b"), Station("c", timed=False)), (Link("a", "b"), Link("b", "c", 2)), "c",
        )
        self.assertEqual(
            [head_start(chain, delayed), head_start(delayed, chain), factor(chain, delayed), factor(delayed, chain)],
            [2, 0, None, 1],
        )


class MattersExamplesTest(unittest.TestCase):
    def test_examples(self):
        line = Line((Station("a"), Station("b", 2)), (Link("a", "b"), Link("a", "b", 4), Link("b", "b", 1)), "b")
        self.assertEqual(
            [idle_links(line), enough_stock(line, 1), enough_hands(line, "b"), enough_hands(line, "a"),
             enough_stock(line, 0)],
            [(1,), 0, 1, None, 4],
        )


class TablesExamplesTest(unittest.TestCase):
    def test_examples(self):
        outlets, orders, pairs = table(Line((Station("b"), Station("a")), (Link("a", "b"),), "b"))
        self.assertEqual(
            [outlets[0][0], str(outlets[0][1]), len(outlets), orders[1][:2], str(orders[1][2]), len(orders), pairs],
            ['a', '0+1', 2, ('a', 'b'), '1+1', 3, (('a', 'b'),)],
        )


class BooksExamplesTest(unittest.TestCase):
    def test_examples(self):
        chain, book = Line((Station("a"), Station("b")), (Link("a", "b"),), "b"), Book()
        book["old"] = chain.with_link(Link("b", "a", 1))
        book["new"] = chain
        book.claim(("never later", "new", "old"))
        book.claim(("factor", "old", "new", 2))
        self.assertEqual(
            [book.names, len(book.claims), book.changes, "new" in book, book["new"] == chain],
            [('new', 'old'), 2, 4, True, True],
        )
        error = raised(Broken, book.claim, ("at once", "new", 1))
        self.assertEqual((error.index, error.shown), (2, 2))


class CertificatesExamplesTest(unittest.TestCase):
    def test_examples(self):
        chain = Line((Station("a"), Station("b")), (Link("a", "b"),), "b")
        single = chain.with_link(Link("b", "a", 1))
        claim, certificate = certify_at_once(single, 2)
        self.assertEqual(
            [claim[0], claim[2], accepts(claim, certificate),
             accepts(claim, ((0, ("work", "b"), 1, ("work", "a")),)), accepts(claim, ((0, 1),))],
            ['not at once', 1, True, True, False],
        )
        found = certify_later(single, chain)
        self.assertEqual(
            [found[0][0], found[0][3], accepts(found[0], found[1]), accepts(found[0], (1, (("a", 1),))),
             certify_never_later(single, chain), certify_never_later(chain, single)[0][0]],
            ['later', 1, True, False, None, 'never later'],
        )


if __name__ == "__main__":
    unittest.main()
