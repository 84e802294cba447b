"""[2.1] Rules, and the room that they leave."""

import random
import unittest

from stilldose.errors import BadSetting
from stilldose.limits import checked_rules, room_left

FAR = 999999999999999


def plain_room(rules, sent):
    """The room, by trying one number after the other."""
    room = 0
    while all(sum((sent + [room + 1])[-window:]) <= most for window, most in rules):
        room += 1
    return room


class Rules(unittest.TestCase):
    def test_the_ends(self):
        for rules in [
            [(1, 0)],
            [(1, 1000000)],
            [(1000, 0)],
            [(1000, 1000000)],
            [(1, 0), (1000, 1000000), (5, 3), (5, 3)],
        ]:
            self.assertEqual(checked_rules(rules), rules)

    def test_how_many(self):
        for many in [0, 5, 6, 100]:
            with self.assertRaises(BadSetting, msg=many):
                checked_rules([(1, 1)] * many)
        for many in [1, 2, 3, 4]:
            self.assertEqual(checked_rules([(1, 1)] * many), [(1, 1)] * many)

    def test_bounds_of_each_rule(self):
        wrong = [(-FAR, 1), (-1, 1), (0, 1), (1001, 1), (FAR, 1), (1, -FAR), (1, -1), (1, 1000001), (1, FAR)]
        for many in [1, 2, 4]:
            for place in range(many):
                for rule in wrong:
                    rules = [(1, 1)] * many
                    rules[place] = rule
                    with self.assertRaises(BadSetting, msg=rules):
                        checked_rules(rules)

    def test_the_list_is_a_new_one(self):
        rules = [(3, 5), (10, 8)]
        told = checked_rules(rules)
        self.assertIsNot(told, rules)
        rules.append((1, 1))
        self.assertEqual(told, [(3, 5), (10, 8)])
        told.clear()
        self.assertEqual(rules, [(3, 5), (10, 8), (1, 1)])


class Room(unittest.TestCase):
    def test_nothing_was_sent(self):
        self.assertEqual(room_left([(3, 5)], []), 5)
        self.assertEqual(room_left([(3, 5), (1, 2)], []), 2)
        self.assertEqual(room_left([(3, 0)], []), 0)

    def test_a_window_of_one_tick_looks_at_no_tick_that_was(self):
        self.assertEqual(room_left([(1, 4)], [9, 9, 9]), 4)

    def test_the_window_ends_with_the_next_tick(self):
        self.assertEqual(room_left([(3, 10)], [7, 1, 2]), 7)
        self.assertEqual(room_left([(4, 10)], [7, 1, 2]), 0)
        self.assertEqual(room_left([(2, 10)], [7, 1, 2]), 8)

    def test_fewer_ticks_than_the_window_has(self):
        self.assertEqual(room_left([(1000, 10)], [7, 1]), 2)

    def test_the_longest_window(self):
        sent = [5] + [1] + [0] * 998
        self.assertEqual(room_left([(1000, 10)], sent), 9)

    def test_the_least_room_of_all_rules(self):
        self.assertEqual(room_left([(1, 6), (2, 7), (4, 9), (3, 100)], [1, 1, 2]), 5)
        self.assertEqual(room_left([(4, 9), (2, 7), (1, 6)], [4, 1, 2]), 2)

    def test_0_if_there_is_none(self):
        self.assertEqual(room_left([(3, 2)], [1, 2]), 0)
        self.assertEqual(room_left([(1, 5), (2, 1)], [FAR]), 0)

    def test_as_by_trying(self):
        source = random.Random(9)
        for turn in range(500):
            rules = [(source.randint(1, 8), source.randint(0, 20)) for k in range(source.randint(1, 4))]
            sent = [source.randint(0, 5) for k in range(source.randint(0, 10))]
            handed_in = (list(rules), list(sent))
            self.assertEqual(room_left(rules, sent), plain_room(rules, sent), handed_in)
            self.assertEqual((rules, sent), handed_in)


if __name__ == "__main__":
    unittest.main()
