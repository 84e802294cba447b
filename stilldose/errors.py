"""The refusals of the program."""


class DoseError(ValueError):
    """Any refusal."""


class BadSetting(DoseError):
    """A setting that is out of its bounds or not of its form."""


class Locked(DoseError):
    """A dose that may not be asked for now."""


class NotThere(DoseError):
    """A report of what can't be reported of."""


class BadSave(DoseError):
    """Saved lines that can't be loaded; line is the first wrong one, counted from 1."""

    def __init__(self, line):
        self.line = line
