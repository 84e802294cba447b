"""The interface: its names and arguments as they stand in the document."""

import inspect
import unittest

from stilldose import ahead, errors, pumps, rates, saves

FUNCTIONS = [
    (rates, "drops_by", ["rate", "ticks"]),
    (rates, "drops_at", ["rate", "tick"]),
    (pumps, "start", ["pump"]),
    (pumps, "stop", ["pump"]),
    (pumps, "fill", ["pump", "many"]),
    (pumps, "press", ["pump", "many"]),
    (pumps, "report", ["pump", "back", "many"]),
    (pumps, "tick", ["pump"]),
    (pumps, "room", ["pump"]),
    (saves, "saved", ["pump"]),
    (saves, "loaded", ["lines", "day", "rules", "lock", "dose", "hold"]),
    (ahead, "ahead", ["pump", "ticks"]),
]
CLASSES = [
    (rates, "Day", ["ticks", "parts"]),
    (pumps, "Pump", ["day", "rules", "lock", "dose", "hold"]),
]
METHODS = [
    (rates.Day, "due", ["self", "tick"]),
    (rates.Day, "due_by", ["self", "ticks"]),
    (pumps.Pump, "time", ["self"]),
    (pumps.Pump, "is_running", ["self"]),
    (pumps.Pump, "state", ["self"]),
]


def plain_arguments(called):
    """The names of what it is called with; none of them has a default."""
    given = inspect.signature(called).parameters.values()
    assert all(one.default is one.empty and one.kind == one.POSITIONAL_OR_KEYWORD for one in given)
    return [one.name for one in given]


class Interface(unittest.TestCase):
    def test_functions(self):
        for module, name, arguments in FUNCTIONS:
            found = getattr(module, name)
            self.assertTrue(inspect.isfunction(found), name)
            self.assertEqual(plain_arguments(found), arguments, name)

    def test_classes(self):
        for module, name, arguments in CLASSES:
            found = getattr(module, name)
            self.assertTrue(inspect.isclass(found), name)
            self.assertEqual(plain_arguments(found), arguments, name)

    def test_methods(self):
        for made, name, arguments in METHODS:
            self.assertEqual(plain_arguments(getattr(made, name)), arguments, name)

    def test_errors(self):
        for name in ["DoseError", "BadSetting", "Locked", "NotThere", "BadSave"]:
            self.assertTrue(issubclass(getattr(errors, name), ValueError), name)


if __name__ == "__main__":
    unittest.main()
