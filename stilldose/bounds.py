"""The one way in which settings are held to their bounds."""

from stilldose.errors import BadSetting


def check_between(what, number, least, most):
    """Raise BadSetting if the number is not from least to most."""
    if number < least or number > most:
        raise BadSetting(f"{what}: {number} is not from {least} to {most}")
