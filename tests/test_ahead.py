"""[3.5] What will be sent at the next ticks."""

import random
import unittest

from stilldose.ahead import ahead
from stilldose.pumps import Pump, fill, press, report, room, start, stop, tick
from stilldose.rates import Day
from stilldose.saves import loaded, saved

DAY = Day(6, [(0, 2, 1), (2, 7, 2), (5, 0, 1)])
RULES = [(2, 5), (5, 9)]
SETTINGS = (DAY, RULES, 3, 10, 4)


def look(pump):
    return (pump.time(), pump.is_running(), pump.state(), room(pump), saved(pump))


def in_the_middle():
    pump = Pump(*SETTINGS)
    start(pump)
    fill(pump, 50)
    tick(pump)
    press(pump, 8)
    tick(pump)
    report(pump, 1, 1)
    return pump


class Ahead(unittest.TestCase):
    def check(self, pump, many):
        before = look(pump)
        told = ahead(pump, many)
        self.assertIs(type(told), list)
        self.assertEqual(look(pump), before)
        self.assertEqual(ahead(pump, many), told)
        self.assertEqual([tick(pump) for k in range(many)], told)

    def test_told_by_hand(self):
        pump = Pump(Day(1, [(0, 3, 1)]), [(2, 5)], 0, 9, 9)
        fill(pump, 14)
        start(pump)
        self.assertEqual(ahead(pump, 8), [3, 2, 3, 2, 3, 1, 0, 0])
        self.assertEqual(look(pump)[:4], (0, True, (14, 0, 0, 0, 0), 5))

    def test_no_ticks(self):
        for pump in [Pump(*SETTINGS), in_the_middle()]:
            before = look(pump)
            self.assertEqual(ahead(pump, 0), [])
            self.assertEqual(look(pump), before)

    def test_what_the_next_ticks_tell(self):
        for many in [0, 1, 2, 5, 30]:
            self.check(in_the_middle(), many)

    def test_of_a_pump_that_does_not_run(self):
        pump = Pump(*SETTINGS)
        fill(pump, 50)
        self.assertEqual(ahead(pump, 4), [0, 0, 0, 0])
        self.check(pump, 4)
        pump = in_the_middle()
        stop(pump)
        self.check(pump, 10)

    def test_of_a_loaded_pump_that_does_not_run_while_drops_wait(self):
        lines = ["now 4", "running 0", "content 30", "waiting 6", "asked 5", "missed 0", "total 0", "free 9", "sent 2"]
        pump = loaded(lines, *SETTINGS)
        self.assertEqual(ahead(pump, 5), [3, 2, 2, 0, 2])
        self.check(pump, 5)

    def test_shorter_lists_are_the_beginnings_of_longer_ones(self):
        pump = in_the_middle()
        told = ahead(pump, 40)
        for many in range(41):
            self.assertEqual(ahead(pump, many), told[:many])

    def test_the_list_is_a_new_one(self):
        pump = in_the_middle()
        told = ahead(pump, 5)
        kept = list(told)
        told.clear()
        self.assertEqual(ahead(pump, 5), kept)

    def test_the_pump_goes_on_by_itself(self):
        one = in_the_middle()
        other = in_the_middle()
        for k in range(30):
            ahead(one, 7)
            self.assertEqual(tick(one), tick(other))
            self.assertEqual(look(one), look(other))

    def test_with_numbers_of_any_size(self):
        far = 999999999999999
        lines = [f"now {far}", "running 1", f"content {far}", f"waiting {far}", f"asked {far}", f"missed {far}"]
        lines += [f"total {far}", f"free {far}", f"sent {far} 0 0 0 0"]
        pump = loaded(lines, *SETTINGS)
        for k in range(3):
            told = ahead(pump, 6)
            self.assertEqual(told, [tick(pump) for k in range(6)])

    def test_with_any_settings(self):
        source = random.Random(11)
        for turn in range(100):
            ticks = source.randint(1, 9)
            day = Day(ticks, [(0, source.randint(0, 9), source.randint(1, 4))])
            rules = [(source.randint(1, 8), source.randint(0, 20)) for k in range(source.randint(1, 4))]
            pump = Pump(day, rules, source.randint(0, 5), 9, source.randint(0, 9))
            fill(pump, source.randint(0, 60))
            start(pump)
            for k in range(source.randint(0, 12)):
                tick(pump)
            press(pump, source.randint(1, 9))
            self.check(pump, source.randint(0, 20))


if __name__ == "__main__":
    unittest.main()
