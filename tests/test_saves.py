"""[4.1] Pumps saved as lines, and [4.2] loaded from them."""

import random
import unittest

from stilldose.ahead import ahead
from stilldose.errors import BadSave, BadSetting, DoseError, Locked, NotThere
from stilldose.pumps import Pump, fill, press, report, room, start, stop, tick
from stilldose.rates import Day
from stilldose.saves import loaded, saved

MOST = 1000000
FAR = 999999999999999
DAY = Day(6, [(0, 2, 1), (2, 7, 2), (5, 0, 1)])
RULES = [(2, 5), (4, 9)]
SETTINGS = (DAY, RULES, 3, 10, 4)
AT_FIRST = ["now 0", "running 0", "content 0", "waiting 0", "asked 0", "missed 0", "total 0", "free 0", "sent"]
GOOD = ["now 12", "running 1", "content 30", "waiting 4", "asked 5", "missed 6", "total 70", "free 2", "sent 1 0 3 2"]


def with_line(number, line):
    """The good lines with another one in the place of that number."""
    lines = list(GOOD)
    lines[number - 1] = line
    return lines


def look(pump):
    return (pump.time(), pump.is_running(), pump.state(), room(pump), saved(pump), ahead(pump, 5))


class Saved(unittest.TestCase):
    def test_at_first(self):
        self.assertEqual(saved(Pump(*SETTINGS)), AT_FIRST)

    def test_word_for_word(self):
        pump = Pump(*SETTINGS)
        fill(pump, 40)
        start(pump)
        press(pump, 8)
        self.assertEqual(
            saved(pump),
            ["now 0", "running 1", "content 40", "waiting 0", "asked 8", "missed 0", "total 0", "free 3", "sent"],
        )
        tick(pump)
        self.assertEqual(
            saved(pump),
            ["now 1", "running 1", "content 35", "waiting 0", "asked 5", "missed 0", "total 5", "free 2", "sent 5"],
        )
        tick(pump)
        tick(pump)
        # 2 and then 3 are due; room for none and then for 4.
        self.assertEqual(
            saved(pump),
            ["now 3", "running 1", "content 31", "waiting 1", "asked 5", "missed 0", "total 9", "free 0", "sent 5 0 4"],
        )
        stop(pump)
        report(pump, 1, 2)
        self.assertEqual(
            saved(pump),
            ["now 3", "running 0", "content 33", "waiting 0", "asked 0", "missed 8", "total 7", "free 0", "sent 5 0 2"],
        )

    def test_in_the_middle_of_a_lock(self):
        pump = Pump(DAY, RULES, 4, 10, 4)
        start(pump)
        frees = [saved(pump)[7]]
        press(pump, 1)
        for k in range(6):
            frees.append(saved(pump)[7])
            tick(pump)
        self.assertEqual(frees, ["free 0", "free 4", "free 3", "free 2", "free 1", "free 0", "free 0"])

    def test_a_lock_goes_on_behind_a_stop(self):
        pump = Pump(DAY, RULES, 4, 10, 4)
        start(pump)
        press(pump, 1)
        stop(pump)
        self.assertEqual(saved(pump)[7], "free 4")
        tick(pump)
        self.assertEqual(saved(pump)[7], "free 3")

    def test_fewer_and_more_ticks_than_the_longest_window_has(self):
        pump = Pump(Day(9, [(0, 1, 1), (1, 2, 1), (2, 3, 1), (3, 4, 1), (4, 5, 1)]), [(1, 9), (3, 99)], 0, 0, 0)
        fill(pump, 100)
        start(pump)
        told = []
        for k in range(6):
            told.append(saved(pump)[8])
            tick(pump)
        self.assertEqual(told, ["sent", "sent 1", "sent 1 2", "sent 1 2 3", "sent 2 3 4", "sent 3 4 5"])

    def test_a_longest_window_of_1_and_of_1000(self):
        for window in [1, 1000]:
            pump = Pump(DAY, [(window, 5)], 0, 0, 0)
            for k in range(1002):
                self.assertEqual(saved(pump)[8], "sent" + " 0" * min(k, window))
                tick(pump)

    def test_the_list_is_a_new_one(self):
        pump = Pump(*SETTINGS)
        told = saved(pump)
        self.assertIs(type(told), list)
        told.clear()
        self.assertEqual(saved(pump), AT_FIRST)

    def test_saving_changes_nothing(self):
        pump = loaded(GOOD, *SETTINGS)
        before = look(pump)
        saved(pump)
        self.assertEqual(look(pump), before)


class Loaded(unittest.TestCase):
    def test_all_of_it(self):
        pump = loaded(GOOD, *SETTINGS)
        self.assertIsInstance(pump, Pump)
        self.assertEqual(pump.time(), 12)
        self.assertIs(pump.is_running(), True)
        self.assertEqual(pump.state(), (30, 4, 5, 6, 70))
        self.assertEqual(room(pump), 3)
        self.assertEqual(saved(pump), GOOD)
        self.assertIs(loaded(with_line(2, "running 0"), *SETTINGS).is_running(), False)

    def test_the_settings_are_those_handed_in(self):
        # Nine drops are due at each tick; one may be asked for; three may wait; a lock of 2.
        pump = loaded(AT_FIRST, Day(1, [(0, 9, 1)]), [(1, 5)], 2, 1, 3)
        fill(pump, 100)
        start(pump)
        with self.assertRaises(Locked):
            press(pump, 2)
        press(pump, 1)
        self.assertEqual(saved(pump)[7], "free 2")
        self.assertEqual(tick(pump), 5)
        self.assertEqual(pump.state(), (95, 3, 1, 1, 5))

    def test_the_list_of_lines_is_not_changed_or_kept(self):
        lines = list(GOOD)
        pump = loaded(lines, *SETTINGS)
        self.assertEqual(lines, GOOD)
        before = look(pump)
        lines.clear()
        self.assertEqual(look(pump), before)
        lines = with_line(5, "asked -1")
        kept = list(lines)
        with self.assertRaises(BadSave):
            loaded(lines, *SETTINGS)
        self.assertEqual(lines, kept)

    def test_a_list_of_rules_that_is_changed_behind_the_call(self):
        rules = list(RULES)
        pump = loaded(GOOD, DAY, rules, 3, 10, 4)
        before = look(pump)
        rules.insert(0, (1, 0))
        self.assertEqual(look(pump), before)

    def test_each_loaded_pump_stands_alone(self):
        one = loaded(GOOD, *SETTINGS)
        other = loaded(GOOD, *SETTINGS)
        tick(one)
        report(one, 1, 0)
        self.assertEqual(saved(other), GOOD)

    def test_lines_that_no_pump_saved(self):
        for number, line in [
            (1, "now 0"),
            (1, f"now {FAR}"),
            (3, f"content {FAR}"),
            (4, f"waiting {FAR}"),
            (5, f"asked {FAR}"),
            (6, f"missed {FAR}"),
            (7, f"total {FAR}"),
            (7, "total 0"),
            (8, "free 4"),
            (8, f"free {FAR}"),
            (9, "sent"),
            (9, "sent 9 9 9 9"),
            (9, f"sent {FAR} {FAR} {FAR} {FAR}"),
            (9, "sent 100000000000000"),
        ]:
            lines = with_line(number, line)
            self.assertEqual(saved(loaded(lines, *SETTINGS)), lines)

    def test_more_than_was_ever_filled_may_wait_where_none_may(self):
        lines = with_line(4, "waiting 400")
        pump = loaded(lines, DAY, RULES, 3, 10, 0)
        self.assertEqual(saved(pump), lines)
        tick(pump)
        # 400 waited and 2 were due; 3 were sent.
        self.assertEqual(pump.state(), (27, 0, 5, 405, 73))

    def test_free_greater_than_the_lock(self):
        pump = loaded(with_line(8, "free 5"), DAY, RULES, 2, 10, 4)
        for k in range(5):
            self.assertEqual(saved(pump)[7], f"free {5 - k}")
            with self.assertRaises(Locked):
                press(pump, 1)
            tick(pump)
        press(pump, 1)
        self.assertEqual(saved(pump)[7], "free 2")

    def test_free_with_a_lock_of_0(self):
        pump = loaded(with_line(8, "free 1"), DAY, RULES, 0, 10, 4)
        with self.assertRaises(Locked):
            press(pump, 1)
        tick(pump)
        press(pump, 1)
        press(pump, 1)

    def test_more_numbers_than_ticks_there_were(self):
        pump = loaded(with_line(1, "now 1"), *SETTINGS)
        self.assertEqual(pump.time(), 1)
        self.assertEqual(room(pump), 3)
        tick(pump)
        self.assertEqual(saved(pump)[0], "now 2")
        self.assertEqual(saved(pump)[8], "sent 0 3 2 3")

    def test_fewer_numbers_than_ticks_there_were(self):
        pump = loaded(with_line(9, "sent 2"), DAY, [(4, 9)], 3, 10, 4)
        self.assertEqual(room(pump), 7)
        for back in [2, 3, 4, 5]:
            with self.assertRaises(NotThere, msg=back):
                report(pump, back, 0)
        self.assertEqual(tick(pump), 7)
        self.assertEqual(saved(pump)[8], "sent 2 7")
        with self.assertRaises(NotThere):
            report(pump, 3, 0)
        report(pump, 2, 1)
        report(pump, 1, 1)
        self.assertEqual(saved(pump)[8], "sent 1 1")

    def test_no_numbers_where_there_were_ticks(self):
        pump = loaded(with_line(9, "sent"), *SETTINGS)
        self.assertEqual(room(pump), 5)
        with self.assertRaises(NotThere):
            report(pump, 1, 0)
        self.assertEqual(tick(pump), 5)
        self.assertEqual(saved(pump)[8], "sent 5")

    def test_with_a_longer_window_what_was_not_saved_counts_as_0(self):
        pump = loaded(GOOD, DAY, [(6, 9)], 3, 10, 4)
        self.assertEqual(room(pump), 3)
        with self.assertRaises(NotThere):
            report(pump, 5, 0)
        report(pump, 4, 0)
        self.assertEqual(room(pump), 4)


class TheSameFromThereOn(unittest.TestCase):
    def do(self, pump, deed, number, back):
        """What the pump tells of a deed, a refusal's name too."""
        deeds = {
            "tick": lambda: tick(pump),
            "start": lambda: start(pump),
            "stop": lambda: stop(pump),
            "fill": lambda: fill(pump, number),
            "press": lambda: press(pump, number),
            "report": lambda: report(pump, back, number),
        }
        try:
            told = deeds[deed]()
        except DoseError as e:
            told = type(e).__name__
        return (told, look(pump))

    def test_of_each_deed(self):
        source = random.Random(12)
        names = ["tick"] * 6 + ["press"] * 3 + ["fill"] * 2 + ["report"] * 2 + ["start", "start", "stop"]
        for turn in range(60):
            rules = [(source.randint(1, 9), source.randint(0, 20)) for k in range(source.randint(1, 4))]
            settings = (DAY, rules, source.randint(0, 6), 9, source.randint(0, 9))
            pump = Pump(*settings)
            for k in range(source.randint(0, 25)):
                self.do(pump, source.choice(names), source.randint(-1, 12), source.randint(0, 9))
            lines = saved(pump)
            other = loaded(lines, *settings)
            self.assertEqual(saved(other), lines)
            for k in range(40):
                deed = (source.choice(names), source.randint(-1, 12), source.randint(0, 9))
                self.assertEqual(self.do(other, *deed), self.do(pump, *deed), (lines, deed))


class Refused(unittest.TestCase):
    def refuse(self, lines, number, settings=SETTINGS):
        kept = list(lines)
        with self.assertRaises(BadSave, msg=lines) as caught:
            loaded(lines, *settings)
        self.assertEqual((lines, caught.exception.line), (kept, number))

    def test_no_lines(self):
        self.refuse([], 1)

    def test_a_line_that_lacks_at_the_end(self):
        for many in range(9):
            self.refuse(GOOD[:many], many + 1)

    def test_a_line_that_lacks_in_the_middle(self):
        for number in range(1, 10):
            self.refuse(GOOD[: number - 1] + GOOD[number:], number)

    def test_lines_that_are_too_many(self):
        for line in ["sent", GOOD[8], "", "now 0", "more 1"]:
            self.refuse(GOOD + [line], 10)
            self.refuse(AT_FIRST + [line, line, line], 10)

    def test_a_line_twice(self):
        for number in range(1, 9):
            self.refuse(GOOD[:number] + GOOD[number - 1 :], number + 1)

    def test_another_order(self):
        self.refuse(list(reversed(GOOD)), 1)
        for number in range(1, 9):
            lines = list(GOOD)
            lines[number - 1] = GOOD[number]
            lines[number] = GOOD[number - 1]
            self.refuse(lines, number)

    def test_a_wrong_word(self):
        for number in range(1, 10):
            word, blank, rest = GOOD[number - 1].partition(" ")
            for other in ["", "x", word.upper(), word.title(), word[:-1], word + "s", word + ":", rest, "0"]:
                self.refuse(with_line(number, other + " " + rest), number)

    def test_a_word_alone(self):
        for number in range(1, 9):
            word = GOOD[number - 1].split(" ")[0]
            self.refuse(with_line(number, word), number)
            self.refuse(with_line(number, word + " "), number)
        self.refuse(with_line(9, "sent "), 9)

    def test_two_numbers_where_one_belongs(self):
        for number in range(1, 9):
            self.refuse(with_line(number, GOOD[number - 1] + " 0"), number)
            self.refuse(with_line(number, GOOD[number - 1] + " 1"), number)

    def test_empty_lines_and_numbers_alone(self):
        for number in range(1, 10):
            for line in ["", " ", "  ", "0", "1", " 1", "1 1"]:
                self.refuse(with_line(number, line), number)

    def test_blanks(self):
        for number in range(1, 10):
            line = GOOD[number - 1]
            for other in [" " + line, line + " ", line.replace(" ", "  "), line.replace(" ", ""), line + "  "]:
                self.refuse(with_line(number, other), number)
        for line in ["sent 1  2", "sent  1 2", "sent 1 2 ", " sent 1 2"]:
            self.refuse(with_line(9, line), 9)

    def test_what_is_no_number(self):
        wrong = ["-0", "-1", "+0", "+1", "00", "01", "000", "007", "x", "1x", "x1", "1.", "1.0", "1,0", "1_0", "1e3"]
        wrong += ["1000000000000000", "9999999999999999", "0000000000000000", "1" * 5000, "0x1", "0b1", "None", "True"]
        # Signs that Python takes for figures or for blanks, too.
        wrong += ["\u0661", "\u00b2", "1\n", "\n1", "1\t", "\u00a01"]
        for number in range(1, 10):
            word = GOOD[number - 1].split(" ")[0]
            for text in wrong:
                self.refuse(with_line(number, f"{word} {text}"), number)
        for text in wrong:
            for line in [f"sent 1 {text}", f"sent {text} 1", f"sent 1 {text} 1"]:
                self.refuse(with_line(9, line), 9)

    def test_other_signs_in_the_place_of_the_blank(self):
        for number in range(1, 10):
            for sign in ["\t", "\n", "\u00a0", "=", ":", "-"]:
                self.refuse(with_line(number, GOOD[number - 1].replace(" ", sign)), number)

    def test_running(self):
        for text in ["2", "3", "10", "11", "01", "-1", "999999999999999", "True"]:
            self.refuse(with_line(2, f"running {text}"), 2)

    def test_more_numbers_at_sent_than_the_longest_window_has(self):
        self.refuse(with_line(9, "sent 0 0 0 0 0"), 9)
        self.refuse(with_line(9, "sent" + " 1" * 1001), 9)
        for window in [1, 2, 7, 1000]:
            settings = (DAY, [(1, 5), (window, 5)], 0, 0, 0)
            lines = with_line(9, "sent" + " 3" * window)
            self.assertEqual(saved(loaded(lines, *settings)), lines)
            self.refuse(with_line(9, "sent" + " 3" * (window + 1)), 9, settings)

    def test_the_first_wrong_one(self):
        for first in range(1, 10):
            for second in range(first + 1, 10):
                lines = with_line(first, "x")
                lines[second - 1] = "x"
                self.refuse(lines, first)
                self.refuse(lines + ["x"], first)
                self.refuse(lines[:second], first)
        self.refuse(with_line(2, "running 2")[:5], 2)
        self.refuse(with_line(9, "sent 0 0 0 0 0") + ["sent"], 9)

    def test_bad_setting_goes_ahead(self):
        wrong = [
            (DAY, [], 3, 10, 4),
            (DAY, [(1, 1)] * 5, 3, 10, 4),
            (DAY, [(0, 1)], 3, 10, 4),
            (DAY, [(1001, 1)], 3, 10, 4),
            (DAY, [(1, -1)], 3, 10, 4),
            (DAY, [(1, MOST + 1)], 3, 10, 4),
            (DAY, RULES, -1, 10, 4),
            (DAY, RULES, MOST + 1, 10, 4),
            (DAY, RULES, 3, -1, 4),
            (DAY, RULES, 3, MOST + 1, 4),
            (DAY, RULES, 3, 10, -1),
            (DAY, RULES, 3, 10, MOST + 1),
        ]
        for settings in wrong:
            for lines in [[], GOOD, GOOD + [""], with_line(1, "x"), with_line(9, "sent" + " 0" * 2000)]:
                with self.assertRaises(BadSetting, msg=(lines, settings)):
                    loaded(lines, *settings)


if __name__ == "__main__":
    unittest.main()
