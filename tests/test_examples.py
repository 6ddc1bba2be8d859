"""The examples of the document, as they stand there."""

import unittest

from owntimes.lagsets import Lags


class LagsetsExamplesTest(unittest.TestCase):
    def test_examples(self):
        odd, few = Lags(again=(1,), period=2), Lags((0, 3), (5, 7), 2)
        self.assertEqual(
            [str(odd), str(few), few.members, odd.members, few.start, few.period],
            ['1+2', '0 3+2', (0, 3), (1,), 2, 2],
        )
        self.assertEqual(
            [str(odd & few), str(odd | few), str(few - odd), str(odd + odd), str(few.shifted(-3)), odd.within(few),
             9 in few, few.upto(8), Lags.read('0 3+2') == few, few.endless],
            ['3+2', '0 1+2', '0', '2+2', '0+2', False, True, (0, 3, 5, 7), True, True],
        )
        self.assertEqual(repr(few), "Lags('0 3+2')")

    def test_texts_of_point_13(self):
        few = Lags.read("0 3+2")
        self.assertEqual(few.upto(7), (0, 3, 5, 7))
        self.assertEqual((str(Lags()), Lags().start, Lags().period, Lags((4,)).period), ("none", 0, 1, 1))


if __name__ == "__main__":
    unittest.main()
