"""[0.1], [0.2] What holds over the whole program, over long rows of deeds of every kind."""

import random
import unittest

from stilldose.ahead import ahead
from stilldose.errors import BadSetting, Locked, NotThere
from stilldose.pumps import Pump, fill, press, report, room, start, stop, tick
from stilldose.rates import Day
from stilldose.saves import loaded, saved

MOST = 1000000
FAR = 999999999999999


class Book:
    """What is known of a pump from outside: all that was done, and all that was told."""

    def __init__(self, day, rules, lock, dose, hold):
        self.day = day
        self.rules = rules
        self.lock = lock
        self.dose = dose
        self.hold = hold
        self.runs = False
        self.filled = 0
        self.wanted = 0
        self.last_dose = None
        # What came out at each tick that ever was.
        self.out = []

    def now(self):
        return len(self.out)

    def longest(self):
        return max(window for window, most in self.rules)

    def in_last(self, many):
        return sum(self.out[max(0, self.now() - many) :])

    def room(self):
        return max(0, min(most - self.in_last(window - 1) for window, most in self.rules))

    def is_locked(self, many):
        if not self.runs or not 1 <= many <= self.dose:
            return True
        return self.last_dose is not None and self.now() - self.last_dose < self.lock

    def can_report(self, back, many):
        return 1 <= back <= min(self.now(), self.longest()) and 0 <= many <= self.out[-back]


class Row(unittest.TestCase):
    """A row of deeds, each of them held against the book."""

    def begin(self, day, rules, lock, dose, hold):
        self.settings = (day, rules, lock, dose, hold)
        self.pump = Pump(*self.settings)
        self.book = Book(*self.settings)

    def check_balance(self):
        content, waiting, asked, missed, total = self.pump.state()
        book = self.book
        self.assertEqual(self.pump.time(), book.now())
        self.assertIs(self.pump.is_running(), book.runs)
        self.assertEqual(room(self.pump), book.room())
        self.assertEqual(total, sum(book.out))
        self.assertEqual(content + total, book.filled)
        self.assertEqual(total + waiting + asked + missed, book.wanted)
        self.assertGreaterEqual(min(self.pump.state()), 0)

    def check_windows(self):
        out = self.book.out
        for window, most in self.book.rules:
            for end in range(1, len(out) + 1):
                self.assertLessEqual(sum(out[max(0, end - window) : end]), most, (window, most, end))

    def do_tick(self):
        pump = self.pump
        book = self.book
        content, waiting, asked, missed, total = pump.state()
        due = book.day.due(book.now()) if book.runs else 0
        bounds = [waiting + due + asked, content, book.room()]
        many = tick(pump)
        self.assertIs(type(many), int)
        self.assertEqual(many, min(bounds))
        still = max(0, waiting + due - many)
        above = max(0, still - book.hold)
        rest = asked - max(0, many - waiting - due)
        self.assertEqual(pump.state(), (content - many, still - above, rest, missed + above, total + many))
        book.wanted += due
        book.out.append(many)
        for window, most in book.rules:
            self.assertLessEqual(book.in_last(window), most)

    def do_start(self):
        self.assertIsNone(start(self.pump))
        self.book.runs = True

    def do_stop(self):
        content, waiting, asked, missed, total = self.pump.state()
        self.assertIsNone(stop(self.pump))
        self.assertEqual(self.pump.state(), (content, 0, 0, missed + waiting + asked, total))
        self.book.runs = False

    def refuse(self, refusal, deed, *numbers):
        before = saved(self.pump)
        with self.assertRaises(refusal):
            deed(self.pump, *numbers)
        self.assertEqual(saved(self.pump), before)

    def do_fill(self, many):
        if 0 <= many <= MOST:
            self.assertIsNone(fill(self.pump, many))
            self.book.filled += many
        else:
            self.refuse(BadSetting, fill, many)

    def do_press(self, many):
        if self.book.is_locked(many):
            self.refuse(Locked, press, many)
        else:
            asked = self.pump.state()[2]
            self.assertIsNone(press(self.pump, many))
            self.assertEqual(self.pump.state()[2], asked + many)
            self.book.wanted += many
            self.book.last_dose = self.book.now()

    def do_report(self, back, many):
        book = self.book
        if not book.can_report(back, many):
            self.refuse(NotThere, report, back, many)
            return
        content, waiting, asked, missed, total = self.pump.state()
        others = book.out[-back] - many
        self.assertIsNone(report(self.pump, back, many))
        state = (content + others, waiting, asked, missed + others, total - others)
        self.assertEqual(self.pump.state(), state)
        book.out[-back] = many

    def lines_by_book(self):
        book = self.book
        content, waiting, asked, missed, total = self.pump.state()
        free = 0 if book.last_dose is None else max(0, book.last_dose + book.lock - book.now())
        last = book.out[max(0, book.now() - book.longest()) :]
        lines = [f"now {book.now()}", f"running {int(book.runs)}", f"content {content}", f"waiting {waiting}"]
        lines += [f"asked {asked}", f"missed {missed}", f"total {total}", f"free {free}"]
        return lines + ["sent" + "".join(f" {number}" for number in last)]

    def do_save_and_load(self):
        lines = saved(self.pump)
        self.assertEqual(lines, self.lines_by_book())
        self.pump = loaded(lines, *self.settings)
        self.assertEqual(saved(self.pump), lines)

    def do_ahead(self, many):
        before = saved(self.pump)
        told = ahead(self.pump, many)
        self.assertEqual(saved(self.pump), before)
        other = loaded(before, *self.settings)
        self.assertEqual(told, [tick(other) for k in range(many)])

    def do_some(self, source):
        longest = self.book.longest()
        choice = source.randint(0, 99)
        if choice < 50:
            self.do_tick()
        elif choice < 60:
            self.do_press(source.randint(-1, self.book.dose + 1))
        elif choice < 70:
            self.do_fill(source.choice([-1, 0, 1, 5, 20, 60, 60, MOST + 1]))
        elif choice < 82:
            back = source.choice([-1, 0, 1, 1, 2, longest, longest + 1, source.randint(1, longest)])
            self.do_report(back, source.choice([-1, 0, 0, 1, 2, 5]))
        elif choice < 88:
            self.do_start()
        elif choice < 90:
            self.do_stop()
        elif choice < 97:
            self.do_save_and_load()
        else:
            self.do_ahead(source.randint(0, 8))

    def run_row(self, source, deeds):
        for k in range(deeds):
            self.do_some(source)
            self.check_balance()
        self.check_windows()


def some_day(source):
    ticks = source.randint(1, 20)
    starts = [0] + sorted(source.sample(range(1, ticks), min(ticks - 1, source.randint(0, 3))))
    return Day(ticks, [(begin, source.randint(0, 9), source.randint(1, 4)) for begin in starts])


class ShortWindows(Row):
    def test_many_rows(self):
        for turn in range(120):
            source = random.Random(turn)
            rules = [(source.randint(1, 12), source.randint(0, 25)) for k in range(source.randint(1, 4))]
            hold = source.choice([0, 1, 5, 20, MOST])
            self.begin(some_day(source), rules, source.randint(0, 8), source.randint(0, 12), hold)
            self.do_fill(source.randint(0, 200))
            self.run_row(source, 250)


class LongWindows(Row):
    def test_a_long_row(self):
        source = random.Random(1000)
        self.begin(some_day(source), [(1000, 700), (60, 90), (1, 9), (7, 20)], 30, 40, 15)
        self.do_fill(MOST)
        self.do_start()
        self.run_row(source, 6000)
        self.assertGreater(self.book.now(), 2000)


class Loads(Row):
    def test_saved_and_loaded_at_each_tick(self):
        """Loading must not give room that the ticks ahead of it have taken."""
        self.begin(Day(1, [(0, 5, 1)]), [(3, 7), (5, 10), (2, 6)], 2, 9, 50)
        self.do_fill(500)
        self.do_start()
        for k in range(60):
            self.do_press(3)
            self.do_save_and_load()
            self.do_tick()
            self.check_balance()
        self.check_windows()
        self.assertEqual(sum(self.book.out[:5]), 10)

    def test_stopped_and_started_at_each_tick(self):
        self.begin(Day(1, [(0, 5, 1)]), [(3, 7), (5, 10)], 0, 9, 50)
        self.do_fill(500)
        for k in range(60):
            self.do_start()
            self.do_press(9)
            self.do_tick()
            self.do_stop()
            self.check_balance()
        self.check_windows()

    def test_all_is_reported_back(self):
        self.begin(Day(1, [(0, 5, 1)]), [(3, 7), (5, 10)], 0, 9, 50)
        self.do_fill(500)
        self.do_start()
        for k in range(60):
            self.do_tick()
            self.do_report(1 + k % 5, 0)
            self.check_balance()
        self.check_windows()

    def test_any_whole_number_may_be_handed_in(self):
        self.begin(Day(1, [(0, 5, 1)]), [(3, 7)], 2, 9, 50)
        self.do_fill(500)
        self.do_start()
        for number in [-FAR, -MOST - 1, -1, MOST + 1, FAR]:
            self.do_tick()
            self.do_fill(number)
            self.do_press(number)
            for other in [-FAR, -1, 0, 1, FAR]:
                self.do_report(number, other)
                self.do_report(other, number)
            self.check_balance()


if __name__ == "__main__":
    unittest.main()
