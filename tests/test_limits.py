import unittest

from owntimes import limits


class LimitsTest(unittest.TestCase):
    def test_limits(self):
        found = [
            limits.MOST_STATIONS, limits.MOST_LINKS, limits.MOST_HANDS,
            limits.MOST_STOCK, limits.MOST_NUMBER, limits.MOST_LAGS,
        ]
        self.assertEqual(found, [6, 12, 4, 5, 1000, 2000])
        self.assertTrue(all(type(value) is int for value in found))


if __name__ == "__main__":
    unittest.main()
