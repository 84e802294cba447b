"""[3.4] Reports of what came out."""

import unittest

from stilldose.errors import NotThere
from stilldose.pumps import Pump, fill, press, report, room, start, stop, tick
from stilldose.rates import Day
from stilldose.saves import loaded, saved

FAR = 999999999999999


def pump_after(sent, rules):
    """A pump that has sent these numbers, one a tick, and has 100 drops left."""
    pump = Pump(Day(1, [(0, 0, 1)]), rules, 0, 1000000, 0)
    start(pump)
    for many in sent:
        fill(pump, many)
        if many > 0:
            press(pump, many)
        assert tick(pump) == many
    fill(pump, 100)
    return pump


def sent_line(pump):
    return saved(pump)[8]


class Report(unittest.TestCase):
    def test_of_the_last_tick(self):
        pump = pump_after([5, 7], [(3, 20)])
        report(pump, 1, 4)
        self.assertEqual(pump.state(), (103, 0, 0, 3, 9))
        self.assertEqual((pump.time(), pump.is_running()), (2, True))
        self.assertEqual(sent_line(pump), "sent 5 4")

    def test_of_earlier_ones(self):
        pump = pump_after([5, 7, 6, 2], [(10, 50)])
        report(pump, 4, 0)
        self.assertEqual(sent_line(pump), "sent 0 7 6 2")
        report(pump, 3, 1)
        self.assertEqual(sent_line(pump), "sent 0 1 6 2")
        report(pump, 2, 5)
        self.assertEqual(sent_line(pump), "sent 0 1 5 2")
        self.assertEqual(pump.state(), (112, 0, 0, 12, 8))

    def test_the_same_tick_twice(self):
        pump = pump_after([5, 7], [(3, 20)])
        report(pump, 2, 3)
        report(pump, 2, 1)
        self.assertEqual(pump.state(), (104, 0, 0, 4, 8))
        # More than is known by now, though not more than was sent.
        for many in [2, 3, 5]:
            with self.assertRaises(NotThere):
                report(pump, 2, many)
        report(pump, 2, 1)
        self.assertEqual(pump.state(), (104, 0, 0, 4, 8))

    def test_the_same_tick_twice_from_another_time(self):
        pump = pump_after([5], [(3, 20)])
        report(pump, 1, 3)
        tick(pump)
        with self.assertRaises(NotThere):
            report(pump, 2, 4)
        report(pump, 2, 2)
        self.assertEqual(pump.state(), (103, 0, 0, 3, 2))

    def test_all_of_it_came_out(self):
        pump = pump_after([5, 7], [(3, 20)])
        before = saved(pump)
        self.assertIsNone(report(pump, 1, 7))
        self.assertEqual(saved(pump), before)

    def test_of_a_tick_at_which_nothing_was_sent(self):
        pump = pump_after([0], [(3, 20)])
        report(pump, 1, 0)
        self.assertEqual(pump.state(), (100, 0, 0, 0, 0))
        with self.assertRaises(NotThere):
            report(pump, 1, 1)

    def test_of_a_pump_that_does_not_run(self):
        pump = pump_after([5], [(3, 20)])
        stop(pump)
        report(pump, 1, 2)
        self.assertEqual(pump.state(), (103, 0, 0, 3, 2))
        self.assertIs(pump.is_running(), False)

    def test_nothing_of_it_waits_or_is_asked_for(self):
        pump = pump_after([5], [(3, 20)])
        report(pump, 1, 0)
        self.assertEqual([tick(pump), tick(pump)], [0, 0])
        self.assertEqual(pump.state(), (105, 0, 0, 5, 0))

    def test_the_room_grows_while_that_tick_lies_in_a_window(self):
        pump = pump_after([5, 2], [(3, 10)])
        self.assertEqual(room(pump), 3)
        report(pump, 2, 1)
        self.assertEqual(room(pump), 7)
        press(pump, 30)
        # 1 and 2 lie in the first window, 2 and 7 in the next, 7 and 1 in the third.
        self.assertEqual([tick(pump), tick(pump), tick(pump)], [7, 1, 2])

    def test_the_room_does_not_grow_by_a_tick_that_has_left_the_window(self):
        pump = pump_after([5, 2, 3], [(3, 10)])
        self.assertEqual(room(pump), 5)
        report(pump, 3, 0)
        self.assertEqual(room(pump), 5)
        self.assertEqual(pump.state(), (105, 0, 0, 5, 5))
        report(pump, 2, 0)
        self.assertEqual(room(pump), 7)

    def test_the_room_grows_in_the_longer_window_alone(self):
        pump = pump_after([5, 2, 3], [(2, 8), (4, 12)])
        self.assertEqual(room(pump), 2)
        report(pump, 3, 0)
        self.assertEqual(room(pump), 5)


class Refused(unittest.TestCase):
    def refuse(self, pump, back, many):
        before = (saved(pump), pump.state(), room(pump))
        with self.assertRaises(NotThere, msg=(back, many)):
            report(pump, back, many)
        self.assertEqual((saved(pump), pump.state(), room(pump)), before)

    def test_0_and_less_ticks_ago(self):
        pump = pump_after([5, 7, 6], [(3, 20)])
        for back in [0, -1, -2, -3, -4, -FAR]:
            for many in [0, 1, 5]:
                self.refuse(pump, back, many)

    def test_where_there_was_no_such_tick(self):
        pump = pump_after([], [(5, 20)])
        for back in [1, 2, 5, FAR]:
            self.refuse(pump, back, 0)
        pump = pump_after([5, 7], [(5, 20)])
        for back in [3, 4, 5, 6, FAR]:
            self.refuse(pump, back, 0)

    def test_longer_ago_than_the_longest_window(self):
        for window in [1, 2, 3]:
            pump = pump_after([4, 4, 4, 4, 4], [(window, 12), (1, 11)])
            for back in range(window + 1, 8):
                self.refuse(pump, back, 0)
            report(pump, window, 0)
            self.assertEqual(pump.state(), (104, 0, 0, 4, 16))

    def test_the_longest_window_of_all(self):
        pump = pump_after([1] * 1005, [(1000, 1000), (7, 700)])
        self.refuse(pump, 1001, 0)
        report(pump, 1000, 0)
        self.assertEqual(pump.state(), (101, 0, 0, 1, 1004))

    def test_below_0_drops(self):
        pump = pump_after([5, 0], [(3, 20)])
        for back in [1, 2]:
            for many in [-1, -5, -FAR]:
                self.refuse(pump, back, many)

    def test_more_than_came_out(self):
        pump = pump_after([5, 0, 7], [(3, 20)])
        for back, many in [(1, 8), (2, 1), (3, 6), (3, 7), (1, FAR)]:
            self.refuse(pump, back, many)

    def test_what_was_not_saved(self):
        lines = ["now 9", "running 1", "content 3", "waiting 0", "asked 0", "missed 0", "total 50", "free 0"]
        lines += ["sent 4 5"]
        pump = loaded(lines, Day(1, [(0, 0, 1)]), [(6, 10)], 0, 0, 0)
        for back in [3, 4, 6, 7]:
            self.refuse(pump, back, 0)
        tick(pump)
        for back in [4, 5, 6]:
            self.refuse(pump, back, 0)
        report(pump, 3, 1)
        self.assertEqual(pump.state(), (6, 0, 0, 3, 47))


if __name__ == "__main__":
    unittest.main()
