"""The refusals: how they stand under one another."""

import unittest

from stilldose.errors import BadSave, BadSetting, DoseError, Locked, NotThere

REFUSALS = [BadSetting, Locked, NotThere, BadSave]


class Errors(unittest.TestCase):
    def test_any_refusal_is_a_value_error(self):
        self.assertEqual(DoseError.__bases__, (ValueError,))

    def test_each_refusal_stands_under_dose_error(self):
        for refusal in REFUSALS:
            self.assertTrue(issubclass(refusal, DoseError), refusal)
            self.assertIsNot(refusal, DoseError)

    def test_no_refusal_stands_under_another(self):
        for one in REFUSALS:
            for other in REFUSALS:
                if one is not other:
                    self.assertFalse(issubclass(one, other), (one, other))

    def test_refusals_are_taken_by_their_names(self):
        for refusal in [DoseError, BadSetting, Locked, NotThere]:
            with self.assertRaises(refusal):
                raise refusal("some words")

    def test_bad_save_has_its_line(self):
        for line in [1, 9, 10, 999999999999999]:
            self.assertEqual(BadSave(line).line, line)
            with self.assertRaises(DoseError) as caught:
                raise BadSave(line)
            self.assertEqual(caught.exception.line, line)


if __name__ == "__main__":
    unittest.main()
