"""Names: texts of one to eight letters from a to z."""

from hookmats.errors import InvalidName

LETTERS = "abcdefghijklmnopqrstuvwxyz"


def is_name(told):
    """True if a text is a name."""
    return 1 <= len(told) <= 8 and all([sign in LETTERS for sign in told])


def check_name(name):
    """Raise InvalidName for a text that is no name."""
    if not is_name(name):
        raise InvalidName(name)
