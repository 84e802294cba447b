"""[1.2] Days, and [0.1] for what is handed in to them."""

import random
import unittest
from fractions import Fraction
from math import floor

from stilldose.errors import BadSetting
from stilldose.rates import Day

MOST = 1000000
FAR = 999999999999999


def plain_due(ticks, parts, tick):
    """What is due at a tick, by a walk over all parts."""
    within = tick % ticks
    start, drops, span = [part for part in parts if part[0] <= within][-1]
    share = Fraction(drops, span)
    return floor(share * (within - start + 1)) - floor(share * (within - start))


def some_day(source):
    ticks = source.randint(1, 30)
    many = source.randint(1, min(ticks, 6))
    starts = [0] + sorted(source.sample(range(1, ticks), many - 1))
    return ticks, [(start, source.randint(0, 9), source.randint(1, 9)) for start in starts]


class Due(unittest.TestCase):
    def test_one_part(self):
        day = Day(8, [(0, 1, 3)])
        # The rate begins anew with the day: the two ticks left over at its end give nothing.
        self.assertEqual([day.due(tick) for tick in range(17)], [0, 0, 1, 0, 0, 1, 0, 0] * 2 + [0])

    def test_several_parts(self):
        day = Day(10, [(0, 1, 2), (3, 0, 1), (5, 5, 3)])
        first = [0, 1, 0] + [0, 0] + [1, 2, 2, 1, 2]
        self.assertEqual([day.due(tick) for tick in range(30)], first * 3)

    def test_the_rate_begins_anew_at_the_next_part(self):
        day = Day(6, [(0, 1, 2), (3, 1, 2)])
        self.assertEqual([day.due(tick) for tick in range(6)], [0, 1, 0, 0, 1, 0])

    def test_last_tick_of_a_part_and_first_of_the_next(self):
        day = Day(100, [(0, 1, 1), (40, 7, 1), (41, 0, 1), (99, 9, 1)])
        told = [day.due(tick) for tick in [0, 39, 40, 41, 98, 99, 100, 139, 140, 141]]
        self.assertEqual(told, [1, 1, 7, 0, 0, 9, 1, 1, 7, 0])

    def test_a_day_of_one_tick(self):
        day = Day(1, [(0, 5, 2)])
        self.assertEqual([day.due(tick) for tick in [0, 1, 2, FAR]], [2, 2, 2, 2])
        self.assertEqual([day.due_by(ticks) for ticks in [0, 1, 2, FAR]], [0, 2, 4, 2 * FAR])

    def test_a_day_of_one_tick_whose_share_is_never_whole(self):
        day = Day(1, [(0, 1, 2)])
        self.assertEqual([day.due(tick) for tick in range(4)], [0, 0, 0, 0])
        self.assertEqual(day.due_by(FAR), 0)

    def test_the_greatest_day(self):
        day = Day(MOST, [(0, MOST, MOST), (MOST - 1, MOST, 1)])
        self.assertEqual([day.due(tick) for tick in [0, MOST - 2, MOST - 1, MOST]], [1, 1, MOST, 1])
        self.assertEqual(day.due_by(MOST - 1), MOST - 1)
        self.assertEqual(day.due_by(MOST), 2 * MOST - 1)
        self.assertEqual(day.due_by(MOST + 1), 2 * MOST)

    def test_days_far_on(self):
        parts = [(0, 1, 2), (3, 0, 1), (5, 5, 3)]
        day = Day(10, parts)
        start = 99999999999999 * 10
        for tick in range(10):
            self.assertEqual(day.due(start + tick), day.due(tick))
            self.assertEqual(day.due_by(start + tick), 99999999999999 * 9 + day.due_by(tick))
        self.assertEqual(day.due(FAR), 2)

    def test_a_part_for_each_tick(self):
        many = 20000
        day = Day(many, [(tick, tick, 1) for tick in range(many)])
        self.assertEqual([day.due(tick) for tick in range(many)], list(range(many)))
        self.assertEqual(day.due_by(many), many * (many - 1) // 2)

    def test_parts_that_give_nothing(self):
        day = Day(5, [(0, 0, 1), (2, 0, MOST)])
        self.assertEqual([day.due(tick) for tick in range(11)], [0] * 11)
        self.assertEqual(day.due_by(11), 0)


class DueBy(unittest.TestCase):
    def test_told_by_hand(self):
        day = Day(6, [(0, 1, 2), (3, 2, 1)])
        told = [day.due_by(ticks) for ticks in range(14)]
        self.assertEqual(told, [0, 0, 1, 1, 3, 5, 7, 7, 8, 8, 10, 12, 14, 14])

    def test_nothing_ahead_of_tick_0(self):
        self.assertEqual(Day(3, [(0, MOST, 1)]).due_by(0), 0)

    def test_the_sum_of_what_was_due(self):
        source = random.Random(7)
        for turn in range(200):
            ticks, parts = some_day(source)
            day = Day(ticks, parts)
            given = 0
            for tick in range(3 * ticks + 2):
                self.assertEqual(day.due_by(tick), given, (ticks, parts, tick))
                due = day.due(tick)
                self.assertIs(type(due), int)
                self.assertEqual(due, plain_due(ticks, parts, tick), (ticks, parts, tick))
                given += due
            self.assertIs(type(day.due_by(ticks)), int)

    def test_far_on_it_grows_by_what_is_due(self):
        source = random.Random(8)
        for turn in range(50):
            ticks, parts = some_day(source)
            day = Day(ticks, parts)
            for tick in range(FAR - 2 * ticks, FAR):
                self.assertEqual(day.due(tick), plain_due(ticks, parts, tick))
                self.assertEqual(day.due_by(tick + 1) - day.due_by(tick), day.due(tick))


class Refused(unittest.TestCase):
    def refuse(self, ticks, parts):
        handed_in = list(parts)
        with self.assertRaises(BadSetting, msg=(ticks, parts)):
            Day(ticks, handed_in)
        self.assertEqual(handed_in, parts)

    def test_ticks_of_the_day(self):
        for ticks in [-FAR, -1, 0, MOST + 1, FAR]:
            self.refuse(ticks, [(0, 1, 1)])

    def test_no_parts(self):
        for ticks in [0, 1, 10, MOST]:
            self.refuse(ticks, [])

    def test_first_tick_not_0(self):
        for start in [-FAR, -1, 1, 5, 9, 10, FAR]:
            self.refuse(10, [(start, 1, 1)])
        self.refuse(10, [(1, 1, 1), (2, 1, 1)])
        self.refuse(10, [(-1, 1, 1), (0, 1, 1)])
        self.refuse(10, [(1, 1, 1), (0, 1, 1)])

    def test_ticks_that_do_not_rise(self):
        for starts in [(0, 0), (0, 4, 4), (0, 5, 4), (0, 3, 6, 2), (0, 3, 0), (0, 4, 4, 5), (0, 5, 4, 6)]:
            self.refuse(10, [(start, 1, 1) for start in starts])

    def test_ticks_below_0(self):
        for starts in [(0, -1), (0, 4, -1), (0, -FAR), (0, -2, 3)]:
            self.refuse(10, [(start, 1, 1) for start in starts])

    def test_ticks_not_below_the_days(self):
        for starts in [(0, 10), (0, 11), (0, 4, 10), (0, 9, 10), (0, FAR)]:
            self.refuse(10, [(start, 1, 1) for start in starts])
        self.refuse(1, [(0, 1, 1), (1, 1, 1)])
        self.refuse(MOST, [(0, 1, 1), (MOST, 1, 1)])

    def test_drops_and_ticks_of_each_part(self):
        good = [(0, 1, 1), (3, 1, 1), (9, 1, 1)]
        rates = [(-FAR, 1), (-1, 1), (MOST + 1, 1), (FAR, 1), (1, -FAR), (1, -1), (1, 0), (1, MOST + 1), (1, FAR)]
        for place in range(3):
            for drops, span in rates:
                parts = list(good)
                parts[place] = (good[place][0], drops, span)
                self.refuse(10, parts)

    def test_not_at_the_ends_themselves(self):
        for ticks in [1, MOST]:
            for drops in [0, MOST]:
                for span in [1, MOST]:
                    self.assertIsInstance(Day(ticks, [(0, drops, span)]), Day)
        Day(10, [(0, 1, 1), (1, 0, 1), (8, MOST, MOST), (9, 0, MOST)])
        Day(2, [(0, 1, 1), (1, 1, 1)])


class HandedIn(unittest.TestCase):
    def test_the_parts_are_not_changed(self):
        parts = [(0, 1, 2), (3, 4, 1)]
        day = Day(6, parts)
        day.due(4)
        day.due_by(100)
        self.assertEqual(parts, [(0, 1, 2), (3, 4, 1)])

    def test_changes_behind_the_call_change_nothing(self):
        changes = [
            lambda parts: parts.clear(),
            lambda parts: parts.append((5, 9, 1)),
            lambda parts: parts.reverse(),
            lambda parts: parts.insert(1, (1, 9, 1)),
        ]
        for change in changes:
            parts = [(0, 1, 2), (3, 4, 1)]
            day = Day(6, parts)
            due = [day.due(tick) for tick in range(13)]
            due_by = [day.due_by(ticks) for ticks in range(13)]
            change(parts)
            self.assertEqual([day.due(tick) for tick in range(13)], due)
            self.assertEqual([day.due_by(ticks) for ticks in range(13)], due_by)

    def test_two_days_of_one_list_stand_alone(self):
        parts = [(0, 1, 1)]
        short = Day(3, parts)
        parts.append((1, 0, 1))
        long = Day(4, parts)
        self.assertEqual([short.due_by(12), long.due_by(12)], [12, 3])

    def test_asking_changes_nothing(self):
        day = Day(7, [(0, 2, 3), (4, 5, 2)])
        before = [day.due(tick) for tick in range(14)]
        day.due(FAR)
        day.due_by(FAR)
        self.assertEqual([day.due(tick) for tick in range(14)], before)


if __name__ == "__main__":
    unittest.main()
