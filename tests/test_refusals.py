"""[3.6] What is refused changes nothing."""

import unittest

from stilldose.errors import BadSetting, Locked, NotThere
from stilldose.pumps import Pump, fill, press, report, room, start, stop, tick
from stilldose.rates import Day
from stilldose.saves import saved

FAR = 999999999999999


def look(pump):
    return (pump.state(), pump.time(), pump.is_running(), room(pump), saved(pump))


def fresh():
    return Pump(Day(3, [(0, 5, 2)]), [(2, 4), (4, 6)], 3, 8, 2)


def filled():
    pump = fresh()
    fill(pump, 40)
    start(pump)
    return pump


def in_a_lock():
    pump = filled()
    tick(pump)
    press(pump, 7)
    tick(pump)
    return pump


def behind_a_lock():
    pump = in_a_lock()
    for k in range(6):
        tick(pump)
    return pump


def stopped():
    pump = in_a_lock()
    stop(pump)
    return pump


class Refusals(unittest.TestCase):
    def refuse(self, make, refusal, deed, numbers):
        pump = make()
        before = look(pump)
        for turn in range(2):
            with self.assertRaises(refusal, msg=(make.__name__, deed.__name__, numbers)):
                deed(pump, *numbers)
            self.assertEqual(look(pump), before)
        # What is not seen from outside has stayed, too.
        other = make()
        for k in range(8):
            self.assertEqual(tick(pump), tick(other))
            self.assertEqual(look(pump), look(other))

    def test_fill(self):
        for make in [fresh, filled, in_a_lock, behind_a_lock, stopped]:
            for many in [-FAR, -1, 1000001, FAR]:
                self.refuse(make, BadSetting, fill, (many,))

    def test_press(self):
        for make in [fresh, filled, in_a_lock, behind_a_lock, stopped]:
            for many in [-FAR, -1, 0, 9, FAR]:
                self.refuse(make, Locked, press, (many,))
        for make in [fresh, in_a_lock, stopped]:
            for many in [1, 8]:
                self.refuse(make, Locked, press, (many,))

    def test_report(self):
        for make in [fresh, filled, in_a_lock, behind_a_lock, stopped]:
            for back in [-FAR, -1, 0, 5, 9, FAR]:
                for many in [-1, 0, 1]:
                    self.refuse(make, NotThere, report, (back, many))
            for back in [1, 2, 3, 4]:
                for many in [-FAR, -1, 7, FAR]:
                    self.refuse(make, NotThere, report, (back, many))
        for make in [fresh, filled]:
            self.refuse(make, NotThere, report, (1, 0))


if __name__ == "__main__":
    unittest.main()
