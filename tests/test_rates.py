"""[1.1] Rates."""

import unittest
from fractions import Fraction
from math import floor

from stilldose.rates import drops_at, drops_by

FAR = 999999999999999


def share(rate, ticks):
    return floor(Fraction(rate[0], rate[1]) * ticks)


class DropsBy(unittest.TestCase):
    def test_told_by_hand(self):
        told = [drops_by((3, 7), ticks) for ticks in range(15)]
        self.assertEqual(told, [0, 0, 0, 1, 1, 2, 2, 3, 3, 3, 4, 4, 5, 5, 6])

    def test_more_drops_than_ticks(self):
        self.assertEqual([drops_by((7, 3), ticks) for ticks in range(7)], [0, 2, 4, 7, 9, 11, 14])

    def test_nothing_by_tick_0(self):
        for rate in [(0, 1), (1, 1), (5, 3), (1000000, 1), (1000000, 1000000), (1, 1000000)]:
            self.assertEqual(drops_by(rate, 0), 0, rate)

    def test_a_rate_of_no_drops_gives_none(self):
        for span in [1, 2, 1000000]:
            for ticks in [0, 1, 2, 1000000, FAR]:
                self.assertEqual(drops_by((0, span), ticks), 0)

    def test_one_drop_in_the_most_ticks(self):
        rate = (1, 1000000)
        self.assertEqual(drops_by(rate, 999999), 0)
        self.assertEqual(drops_by(rate, 1000000), 1)
        self.assertEqual(drops_by(rate, 1999999), 1)
        self.assertEqual(drops_by(rate, 2000000), 2)

    def test_the_most_drops(self):
        self.assertEqual(drops_by((1000000, 1), 1), 1000000)
        self.assertEqual(drops_by((1000000, 1), 3), 3000000)
        self.assertEqual(drops_by((1000000, 1000000), 12345), 12345)
        self.assertEqual(drops_by((1000000, 999999), 999998), 999998)
        self.assertEqual(drops_by((1000000, 999999), 999999), 1000000)

    def test_far_on(self):
        self.assertEqual(drops_by((1000000, 1), FAR), 999999999999999000000)
        self.assertEqual(drops_by((1, 3), FAR), 333333333333333)
        self.assertEqual(drops_by((2, 3), FAR - 1), 666666666666665)
        self.assertEqual(drops_by((1, 1000000), FAR), 999999999)

    def test_the_whole_drops_of_the_share(self):
        for drops in [0, 1, 2, 3, 10, 999999, 1000000]:
            for span in [1, 2, 3, 7, 10, 999999, 1000000]:
                for ticks in [0, 1, 2, 3, 20, 21, 999999, 1000000, 1000001, FAR - 1, FAR]:
                    rate = (drops, span)
                    told = drops_by(rate, ticks)
                    self.assertIs(type(told), int)
                    self.assertEqual(told, share(rate, ticks), (rate, ticks))

    def test_beyond_the_bounds_nothing_is_refused(self):
        self.assertEqual(drops_by((1000001, 1), 2), 2000002)
        self.assertEqual(drops_by((1, 1000001), 1000001), 1)
        self.assertIs(type(drops_by((1, 0), 5)), int)
        self.assertIs(type(drops_by((-1, 3), 5)), int)


class DropsAt(unittest.TestCase):
    def test_told_by_hand(self):
        told = [drops_at((3, 7), tick) for tick in range(14)]
        self.assertEqual(told, [0, 0, 1, 0, 1, 0, 1, 0, 0, 1, 0, 1, 0, 1])

    def test_more_drops_than_ticks(self):
        self.assertEqual([drops_at((7, 3), tick) for tick in range(6)], [2, 2, 3, 2, 2, 3])

    def test_the_ends(self):
        self.assertEqual(drops_at((0, 1), 0), 0)
        self.assertEqual(drops_at((0, 1000000), FAR), 0)
        self.assertEqual(drops_at((1, 1), 0), 1)
        self.assertEqual(drops_at((1000000, 1), 0), 1000000)
        self.assertEqual(drops_at((1000000, 1000000), 0), 1)
        self.assertEqual(drops_at((1, 1000000), 0), 0)
        self.assertEqual(drops_at((1, 1000000), 999998), 0)
        self.assertEqual(drops_at((1, 1000000), 999999), 1)
        self.assertEqual(drops_at((1, 1000000), 1000000), 0)

    def test_far_on(self):
        self.assertEqual(drops_at((1000000, 1), FAR), 1000000)
        self.assertEqual([drops_at((1, 3), FAR - 3 + k) for k in range(4)], [0, 0, 1, 0])

    def test_what_came_between_that_tick_and_the_next(self):
        for rate in [(0, 5), (1, 1), (5, 3), (3, 5), (999999, 1000000), (1000000, 999999)]:
            for tick in [0, 1, 2, 3, 4, 5, 999998, 999999, 1000000, FAR - 1, FAR]:
                told = drops_at(rate, tick)
                self.assertIs(type(told), int)
                self.assertEqual(told, share(rate, tick + 1) - share(rate, tick), (rate, tick))

    def test_all_that_was_given_is_the_sum(self):
        for rate in [(0, 1), (1, 4), (4, 1), (5, 12), (12, 5)]:
            for ticks in range(40):
                self.assertEqual(sum(drops_at(rate, tick) for tick in range(ticks)), drops_by(rate, ticks))


if __name__ == "__main__":
    unittest.main()
