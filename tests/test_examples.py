"""The examples of the document, as they stand there."""

import unittest

from owntimes.lagsets import Lags
from owntimes.lines import Line, Link, Station
from owntimes.moments import end, events, moments, under_way
from owntimes.orders import in_sequence, order_lags, outlet_lags, reaching
from owntimes.stuck import rings, stuck


class LagsetsExamplesTest(unittest.TestCase):
    def test_examples(self):
        odd, few = Lags(again=(1,), period=2), Lags((0, 3), (5, 7), 2)
        self.assertEqual(
            [str(odd), str(few), few.members, odd.members, few.start, few.period],
            ['1+2', '0 3+2', (0, 3), (1,), 2, 2],
        )
        self.assertEqual(
            [str(odd & few), str(odd | few), str(few - odd), str(odd + odd), str(few.shifted(-3)), odd.within(few),
             9 in few, few.upto(8), Lags.read('0 3+2') == few, few.endless],
            ['3+2', '0 1+2', '0', '2+2', '0+2', False, True, (0, 3, 5, 7), True, True],
        )
        self.assertEqual(repr(few), "Lags('0 3+2')")

    def test_texts_of_point_13(self):
        few = Lags.read("0 3+2")
        self.assertEqual(few.upto(7), (0, 3, 5, 7))
        self.assertEqual((str(Lags()), Lags().start, Lags().period, Lags((4,)).period), ("none", 0, 1, 1))


class LinesExamplesTest(unittest.TestCase):
    def test_examples(self):
        chain = Line((Station("a"), Station("b")), (Link("a", "b"),), "b")
        single = chain.with_link(Link("b", "a", 1))
        self.assertEqual(
            [repr(single), single.names, len(chain), str(single.links[1]), str(Station("c", None, timed=False)),
             single.turned().links[0] == Link("b", "a")],
            ['Line of 2 stations, 2 links', ('a', 'b'), 2, 'link b -> a: stock 1', 'station c: hands any, no time',
             True],
        )
        self.assertEqual(str(chain), 'station a: hands 1\nstation b: hands 1\nlink a -> b: stock 0\noutlet b')

    def test_text_of_point_10(self):
        text = (
            "station cut: hands 1\nstation weld: hands any\nstation gate: hands 2, no time\n"
            "link cut -> weld: stock 0\nlink weld -> cut: stock 2, early\noutlet weld"
        )
        line = Line.read(text)
        self.assertEqual(str(line), text)
        self.assertEqual((line.timed, rings(line), stuck(line)), (("cut", "weld"), ((0, 1),), None))


class MomentsExamplesTest(unittest.TestCase):
    def test_examples(self):
        chain = Line((Station("a"), Station("b")), (Link("a", "b"),), "b")
        single = chain.with_link(Link("b", "a", 1))
        times = {("a", 1): 3, ("b", 1): 4, ("a", 2): 1, ("b", 2): 2}
        self.assertEqual(
            [moments(chain, times, 2), end(chain, times, 2), end(single, times, 2), under_way(chain, times, 2, 3)],
            [(((0, 3), (3, 4)), ((3, 7), (7, 9))), 9, 10, (('b', 1), ('a', 2))],
        )
        self.assertEqual(
            list(events(chain, times, 1)),
            [(0, 1, 'a', 'begin'), (3, 1, 'a', 'end'), (3, 1, 'b', 'begin'), (7, 1, 'b', 'end')],
        )


class OrdersExamplesTest(unittest.TestCase):
    def test_examples(self):
        chain = Line((Station("a"), Station("b", 2)), (Link("a", "b"), Link("b", "a", 3)), "b")
        self.assertEqual(
            [str(order_lags(chain, "a", "a")), str(order_lags(chain, "b", "b")), str(order_lags(chain, "b", "a")),
             str(outlet_lags(chain, "a")), str(outlet_lags(chain, "b"))],
            ['1+1', '2+1', '3+1', '0+1', '0 2+1'],
        )
        self.assertEqual(
            [reaching(chain, 2), in_sequence(chain, (("b", 1), ("b", 2))),
             in_sequence(chain, (("a", 1), ("b", 1), ("b", 3)))],
            [(('a', 1), ('a', 2), ('b', 2)), False, True],
        )


if __name__ == "__main__":
    unittest.main()
