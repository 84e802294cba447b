"""[2.1], [2.2] A pump's settings, its beginning and its room; [3.1] to [3.3] start, stop, fill, press and tick."""

import unittest

from stilldose.errors import BadSetting, Locked
from stilldose.pumps import Pump, fill, press, report, room, start, stop, tick
from stilldose.rates import Day
from stilldose.saves import loaded

MOST = 1000000
FAR = 999999999999999
WIDE = [(1, MOST)]
# Nothing is ever due on it.
STILL = Day(1, [(0, 0, 1)])


def steady(drops):
    """A day with so many drops due at each tick."""
    return Day(1, [(0, drops, 1)])


def pump_with(day=STILL, rules=WIDE, lock=0, dose=MOST, hold=MOST, content=MOST, runs=True):
    pump = Pump(day, rules, lock, dose, hold)
    fill(pump, content)
    if runs:
        start(pump)
    return pump


def loaded_with(sent, rules=WIDE, now=0, running=0, content=0, waiting=0, asked=0, free=0, hold=MOST, day=STILL):
    lines = [f"now {now}", f"running {running}", f"content {content}", f"waiting {waiting}", f"asked {asked}"]
    lines += ["missed 0", "total 0", f"free {free}", " ".join(["sent"] + [str(number) for number in sent])]
    return loaded(lines, day, rules, 0, MOST, hold)


def ticks(pump, many):
    return [tick(pump) for k in range(many)]


class Settings(unittest.TestCase):
    def refuse(self, rules=WIDE, lock=1, dose=1, hold=1):
        with self.assertRaises(BadSetting, msg=(rules, lock, dose, hold)):
            Pump(STILL, rules, lock, dose, hold)

    def test_how_many_rules(self):
        for many in [0, 5, 6, 100]:
            self.refuse(rules=[(1, 1)] * many)
        for many in [1, 2, 3, 4]:
            self.assertIsInstance(Pump(STILL, [(1, 1)] * many, 1, 1, 1), Pump)

    def test_bounds_of_each_rule(self):
        for rule in [(0, 1), (-1, 1), (-FAR, 1), (1001, 1), (FAR, 1), (1, -1), (1, -FAR), (1, 1000001), (1, FAR)]:
            for place in range(4):
                rules = [(1, 1)] * 4
                rules[place] = rule
                self.refuse(rules=rules)
            self.refuse(rules=[rule])

    def test_bounds_of_lock_dose_and_hold(self):
        for number in [-FAR, -1, 1000001, FAR]:
            self.refuse(lock=number)
            self.refuse(dose=number)
            self.refuse(hold=number)

    def test_none_at_the_ends_themselves(self):
        for number in [0, 1, 999999, MOST]:
            Pump(STILL, WIDE, number, 1, 1)
            Pump(STILL, WIDE, 1, number, 1)
            Pump(STILL, WIDE, 1, 1, number)
        for rule in [(1, 0), (1, MOST), (1000, 0), (1000, MOST)]:
            Pump(STILL, [rule], 1, 1, 1)

    def test_at_first(self):
        pump = Pump(steady(5), [(7, 30), (2, 20), (1000, 25)], 3, 4, 5)
        self.assertEqual(pump.time(), 0)
        self.assertIs(pump.is_running(), False)
        self.assertEqual(pump.state(), (0, 0, 0, 0, 0))
        self.assertIs(type(pump.state()), tuple)
        self.assertEqual(room(pump), 20)

    def test_rules_that_are_changed_behind_the_call(self):
        changes = [
            lambda rules: rules.clear(),
            lambda rules: rules.append((1, 0)),
            lambda rules: rules.insert(0, (1000, 0)),
            lambda rules: rules.pop(),
        ]
        for change in changes:
            rules = [(3, 10), (2, 7)]
            pump = pump_with(steady(9), rules)
            self.assertEqual(rules, [(3, 10), (2, 7)])
            change(rules)
            self.assertEqual(room(pump), 7)
            self.assertEqual(ticks(pump, 6), [7, 0, 3, 4, 3, 3])

    def test_two_pumps_stand_alone(self):
        day = steady(2)
        rules = [(3, 10)]
        one = pump_with(day, rules, content=50)
        other = pump_with(day, rules, content=60)
        ticks(one, 2)
        self.assertEqual((one.time(), one.state(), room(one)), (2, (46, 0, 0, 0, 4), 6))
        self.assertEqual((other.time(), other.state(), room(other)), (0, (60, 0, 0, 0, 0), 10))


class Room(unittest.TestCase):
    def test_the_least_that_a_rule_allows(self):
        for rules, least in [
            ([(5, 8)], 8),
            ([(5, 8), (1, 3)], 3),
            ([(1, 3), (5, 2), (9, 7)], 2),
            ([(4, 0), (1, 9)], 0),
        ]:
            self.assertEqual(room(Pump(STILL, rules, 0, 0, 0)), least)

    def test_several_rules_of_unlike_windows(self):
        pump = pump_with(steady(4), [(1, 6), (2, 7), (4, 13)])
        told = []
        for k in range(8):
            told.append((room(pump), tick(pump)))
        self.assertEqual(told, [(6, 4), (3, 3), (4, 4), (2, 2), (4, 4), (3, 3), (4, 4), (2, 2)])

    def test_fewer_ticks_behind_it_than_a_window_has(self):
        pump = pump_with(steady(1), [(1000, 5)])
        rooms = []
        for k in range(7):
            rooms.append(room(pump))
            tick(pump)
        self.assertEqual(rooms, [5, 4, 3, 2, 1, 0, 0])

    def test_a_window_of_one_tick(self):
        pump = pump_with(steady(9), [(1, 4)])
        for k in range(5):
            self.assertEqual(room(pump), 4)
            self.assertEqual(tick(pump), 4)

    def test_the_tick_at_which_something_leaves_a_window(self):
        for window in [2, 3, 10, 999, 1000]:
            pump = pump_with(rules=[(window, 5)])
            press(pump, 5)
            self.assertEqual(tick(pump), 5)
            press(pump, 1)
            self.assertEqual(ticks(pump, window - 2), [0] * (window - 2))
            self.assertEqual((window, room(pump)), (window, 0))
            self.assertEqual((window, tick(pump)), (window, 0))
            self.assertEqual((window, room(pump)), (window, 5))
            self.assertEqual((window, tick(pump)), (window, 1))

    def test_0_where_there_is_none(self):
        self.assertEqual(room(Pump(STILL, [(3, 0)], 0, 0, 0)), 0)
        # More than the rule allows can have come out ahead of it, where another pump's lines are loaded.
        self.assertEqual(room(loaded_with([9, 9], [(3, 5)])), 0)
        self.assertEqual(room(loaded_with([9, 9], [(3, 5), (1, 4)])), 0)

    def test_asking_changes_nothing(self):
        pump = pump_with(steady(3), [(4, 7)])
        tick(pump)
        self.assertEqual([room(pump) for k in range(3)], [4, 4, 4])
        self.assertEqual((pump.time(), pump.state()), (1, (MOST - 3, 0, 0, 0, 3)))


class StartStopFill(unittest.TestCase):
    def test_each_answers_none(self):
        pump = Pump(STILL, WIDE, 0, 9, 0)
        self.assertIsNone(start(pump))
        self.assertIsNone(fill(pump, 5))
        self.assertIsNone(press(pump, 5))
        self.assertEqual(tick(pump), 5)
        self.assertIsNone(report(pump, 1, 4))
        self.assertIsNone(stop(pump))

    def test_start(self):
        pump = Pump(steady(2), WIDE, 0, 9, 0)
        fill(pump, 10)
        self.assertEqual(tick(pump), 0)
        start(pump)
        self.assertIs(pump.is_running(), True)
        self.assertEqual(pump.state(), (10, 0, 0, 0, 0))
        self.assertEqual(tick(pump), 2)

    def test_start_of_one_that_runs(self):
        pump = pump_with(steady(5), [(1, 1)], content=10)
        press(pump, 3)
        tick(pump)
        before = pump.state()
        start(pump)
        self.assertIs(pump.is_running(), True)
        self.assertEqual((pump.time(), pump.state()), (1, before))
        self.assertEqual(before, (9, 4, 3, 0, 1))

    def test_stop_while_drops_wait_and_are_asked_for(self):
        pump = pump_with(steady(5), [(1, 1)], content=10)
        press(pump, 3)
        tick(pump)
        self.assertEqual(pump.state(), (9, 4, 3, 0, 1))
        stop(pump)
        self.assertIs(pump.is_running(), False)
        self.assertEqual((pump.time(), pump.state()), (1, (9, 0, 0, 7, 1)))
        self.assertEqual(ticks(pump, 3), [0, 0, 0])
        start(pump)
        self.assertEqual((pump.time(), pump.state()), (4, (9, 0, 0, 7, 1)))

    def test_stop_of_a_pump_that_does_not_run(self):
        pump = Pump(STILL, WIDE, 0, 0, 0)
        fill(pump, 3)
        stop(pump)
        self.assertIs(pump.is_running(), False)
        self.assertEqual((pump.time(), pump.state()), (0, (3, 0, 0, 0, 0)))

    def test_stop_of_a_pump_that_does_not_run_while_drops_wait(self):
        pump = loaded_with([], waiting=4, asked=5, content=6)
        stop(pump)
        self.assertEqual(pump.state(), (6, 0, 0, 9, 0))

    def test_fill(self):
        pump = Pump(STILL, WIDE, 0, 0, 0)
        for many, content in [(0, 0), (MOST, MOST), (1, MOST + 1), (MOST, 2 * MOST + 1)]:
            fill(pump, many)
            self.assertEqual(pump.state(), (content, 0, 0, 0, 0))
        start(pump)
        fill(pump, 7)
        self.assertEqual(pump.state(), (2 * MOST + 8, 0, 0, 0, 0))

    def test_fill_out_of_bounds(self):
        pump = pump_with(content=5)
        for many in [-FAR, -1, 1000001, FAR]:
            with self.assertRaises(BadSetting, msg=many):
                fill(pump, many)
            self.assertEqual(pump.state(), (5, 0, 0, 0, 0))


class Press(unittest.TestCase):
    def locked(self, pump, many):
        before = (pump.time(), pump.state())
        with self.assertRaises(Locked, msg=many):
            press(pump, many)
        self.assertEqual((pump.time(), pump.state()), before)

    def test_a_dose_is_asked_for(self):
        pump = pump_with(dose=9, content=20)
        press(pump, 9)
        self.assertEqual(pump.state(), (20, 0, 9, 0, 0))
        press(pump, 1)
        self.assertEqual(pump.state(), (20, 0, 10, 0, 0))
        self.assertEqual(tick(pump), 10)

    def test_it_does_not_run(self):
        pump = pump_with(runs=False)
        self.locked(pump, 1)
        start(pump)
        press(pump, 1)
        stop(pump)
        self.locked(pump, 1)

    def test_the_dose(self):
        for greatest in [1, 2, 50, MOST]:
            pump = pump_with(dose=greatest)
            for many in [-FAR, -1, 0, greatest + 1, FAR]:
                self.locked(pump, many)
            for many in [1, greatest]:
                press(pump, many)
            self.assertEqual(pump.state(), (MOST, 0, 1 + greatest, 0, 0))

    def test_a_greatest_dose_of_0(self):
        pump = pump_with(dose=0)
        for many in [-1, 0, 1, 2]:
            self.locked(pump, many)

    def test_the_first_tick_at_which_it_is_free_again(self):
        for lock in [1, 2, 3, 30, 1001]:
            pump = pump_with(lock=lock)
            # At some time that is not the first.
            ticks(pump, 2)
            for turn in range(2):
                press(pump, 4)
                for k in range(lock):
                    self.locked(pump, 1)
                    tick(pump)
            press(pump, 4)

    def test_a_lock_of_0(self):
        pump = pump_with(lock=0)
        for k in range(5):
            press(pump, 2)
        self.assertEqual(tick(pump), 10)
        press(pump, 2)

    def test_the_greatest_lock(self):
        pump = pump_with(lock=MOST)
        press(pump, 1)
        ticks(pump, 3)
        self.locked(pump, 1)

    def test_no_lock_at_first(self):
        pump = pump_with(lock=MOST)
        press(pump, 1)
        self.assertEqual(tick(pump), 1)

    def test_a_refused_dose_does_not_begin_the_lock_anew(self):
        pump = pump_with(lock=3, dose=5)
        self.locked(pump, 6)
        self.locked(pump, 0)
        press(pump, 1)
        for k in range(3):
            self.locked(pump, 1)
            self.locked(pump, 6)
            tick(pump)
        self.locked(pump, 6)
        press(pump, 1)

    def test_a_stop_and_a_start_change_nothing_of_it(self):
        pump = pump_with(lock=4)
        press(pump, 1)
        tick(pump)
        stop(pump)
        self.locked(pump, 1)
        ticks(pump, 2)
        start(pump)
        self.locked(pump, 1)
        stop(pump)
        start(pump)
        self.locked(pump, 1)
        tick(pump)
        press(pump, 1)

    def test_the_lock_ends_while_it_does_not_run(self):
        pump = pump_with(lock=4)
        press(pump, 1)
        stop(pump)
        ticks(pump, 4)
        self.locked(pump, 1)
        start(pump)
        press(pump, 1)

    def test_a_dose_that_is_missed_locks_too(self):
        pump = pump_with(lock=2)
        press(pump, 1)
        stop(pump)
        start(pump)
        self.assertEqual(pump.state(), (MOST, 0, 0, 1, 0))
        self.locked(pump, 1)

    def test_doses_stay_asked_for_while_there_is_no_room(self):
        pump = pump_with(rules=[(2, 3)], lock=1, hold=0, content=100)
        press(pump, 5)
        self.assertEqual(tick(pump), 3)
        press(pump, 2)
        self.assertEqual(pump.state(), (97, 0, 4, 0, 3))
        self.assertEqual(ticks(pump, 5), [0, 3, 0, 1, 0])


class Tick(unittest.TestCase):
    def test_time_goes_on(self):
        pump = pump_with(runs=False)
        self.assertEqual(pump.time(), 0)
        tick(pump)
        self.assertEqual(pump.time(), 1)
        start(pump)
        ticks(pump, 3)
        self.assertEqual(pump.time(), 4)
        stop(pump)
        tick(pump)
        self.assertEqual(pump.time(), 5)

    def test_nothing_is_due_while_it_does_not_run(self):
        pump = pump_with(steady(3), runs=False)
        self.assertEqual(ticks(pump, 3), [0, 0, 0])
        self.assertEqual(pump.state(), (MOST, 0, 0, 0, 0))

    def test_what_waits_or_is_asked_for_is_still_sent_while_it_does_not_run(self):
        pump = loaded_with([], [(1, 4)], content=20, waiting=5, asked=6, day=steady(3))
        self.assertEqual(tick(pump), 4)
        self.assertEqual(pump.state(), (16, 1, 6, 0, 4))
        self.assertEqual(ticks(pump, 3), [4, 3, 0])
        self.assertEqual((pump.time(), pump.state()), (4, (9, 0, 0, 0, 11)))

    def test_what_waits_above_the_hold_is_missed_while_it_does_not_run(self):
        pump = loaded_with([], [(1, 4)], content=20, waiting=15, hold=6)
        self.assertEqual(tick(pump), 4)
        self.assertEqual(pump.state(), (16, 6, 0, 5, 4))

    def test_those_that_wait_first(self):
        pump = pump_with(steady(3), [(1, 4)], content=100)
        press(pump, 5)
        self.assertEqual(tick(pump), 4)
        self.assertEqual(pump.state(), (96, 0, 4, 0, 4))
        self.assertEqual(tick(pump), 4)
        self.assertEqual(pump.state(), (92, 0, 3, 0, 8))

    def test_those_asked_for_go_out_only_behind_all_that_wait(self):
        pump = pump_with(steady(5), [(1, 4)], content=100)
        press(pump, 2)
        tick(pump)
        self.assertEqual(pump.state(), (96, 1, 2, 0, 4))
        tick(pump)
        self.assertEqual(pump.state(), (92, 2, 2, 0, 8))

    def test_bounded_by_the_room(self):
        pump = pump_with(steady(5), [(3, 7)], content=100)
        self.assertEqual(ticks(pump, 6), [5, 2, 0, 5, 2, 0])
        self.assertEqual(pump.state(), (86, 16, 0, 0, 14))

    def test_bounded_by_what_is_in_the_pump(self):
        pump = pump_with(steady(5), content=12)
        self.assertEqual(ticks(pump, 4), [5, 5, 2, 0])
        self.assertEqual(pump.state(), (0, 8, 0, 0, 12))
        fill(pump, 100)
        self.assertEqual(tick(pump), 13)

    def test_bounded_by_what_wants_to_go_out(self):
        pump = pump_with(steady(2), content=100)
        press(pump, 4)
        self.assertEqual(ticks(pump, 3), [6, 2, 2])
        self.assertEqual(pump.state(), (90, 0, 0, 0, 10))

    def test_an_empty_pump_sends_nothing(self):
        pump = pump_with(steady(2), content=0)
        press(pump, 4)
        self.assertEqual(ticks(pump, 2), [0, 0])
        self.assertEqual(pump.state(), (0, 4, 4, 0, 0))

    def test_what_is_above_the_hold_is_missed(self):
        pump = pump_with(steady(5), [(1, 2)], hold=4, content=100)
        press(pump, 9)
        states = []
        for k in range(3):
            self.assertEqual(tick(pump), 2)
            states.append(pump.state())
        self.assertEqual(states, [(98, 3, 9, 0, 2), (96, 4, 9, 2, 4), (94, 4, 9, 5, 6)])

    def test_what_is_asked_for_is_not_missed_above_the_hold(self):
        pump = pump_with(rules=[(1, 2)], hold=0, content=100)
        press(pump, 9)
        self.assertEqual(tick(pump), 2)
        self.assertEqual(pump.state(), (98, 0, 7, 0, 2))

    def test_a_hold_of_0(self):
        pump = pump_with(steady(5), [(1, 2)], hold=0, content=100)
        self.assertEqual(ticks(pump, 3), [2, 2, 2])
        self.assertEqual(pump.state(), (94, 0, 0, 9, 6))

    def test_just_as_many_as_may_wait(self):
        pump = pump_with(steady(5), [(2, 2)], hold=8, content=100)
        self.assertEqual(ticks(pump, 2), [2, 0])
        self.assertEqual(pump.state(), (98, 8, 0, 0, 2))

    def test_the_hold_counts_behind_the_sending(self):
        pump = pump_with(steady(5), [(1, 5)], hold=0, content=100)
        self.assertEqual(ticks(pump, 3), [5, 5, 5])
        self.assertEqual(pump.state(), (85, 0, 0, 0, 15))

    def test_due_is_by_the_time(self):
        day = Day(5, [(0, 1, 1), (2, 7, 2), (4, 0, 1)])
        pump = pump_with(day)
        self.assertEqual(ticks(pump, 12), [1, 1, 3, 4, 0] * 2 + [1, 1])

    def test_due_is_by_the_time_behind_a_stop_and_a_start(self):
        day = Day(5, [(0, 1, 1), (2, 7, 2), (4, 0, 1)])
        pump = pump_with(day, runs=False)
        self.assertEqual(ticks(pump, 3), [0, 0, 0])
        start(pump)
        self.assertEqual(ticks(pump, 3), [4, 0, 1])
        stop(pump)
        # Over a day's end.
        self.assertEqual(ticks(pump, 6), [0] * 6)
        start(pump)
        self.assertEqual(pump.time(), 12)
        self.assertEqual(ticks(pump, 4), [3, 4, 0, 1])

    def test_far_on(self):
        day = Day(7, [(0, 0, 1), (3, 2, 1), (5, 0, 1)])
        pump = loaded_with([], now=FAR, running=1, content=10, day=day)
        self.assertEqual(tick(pump), day.due(FAR))
        self.assertEqual(pump.time(), FAR + 1)

    def test_kinds(self):
        pump = pump_with(steady(2), [(2, 3)])
        press(pump, 2)
        for number in [tick(pump), room(pump), pump.time()] + list(pump.state()):
            self.assertIs(type(number), int)
        for told in [pump.is_running()]:
            self.assertIs(type(told), bool)


if __name__ == "__main__":
    unittest.main()
