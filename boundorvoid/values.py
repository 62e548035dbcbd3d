"""What kind of thing any value is: an integer, a sequence, a name, a lot."""

LETTERS = "abcdefghijklmnopqrstuvwxyz"
LONGEST_NAME = 8


def is_integer(value):
    """Whether a value is an int that is no bool."""
    return isinstance(value, int) and not isinstance(value, bool)


def is_number(value):
    """Whether a value is an integer from 0 on."""
    return is_integer(value) and value >= 0


def is_sequence(value):
    """Whether a value is a list or a tuple."""
    return isinstance(value, (list, tuple))


def is_name(value):
    """Whether a value is a string of 1 to 8 letters from a to z."""
    if not isinstance(value, str) or not 1 <= len(value) <= LONGEST_NAME:
        return False
    return all([sign in LETTERS for sign in value])


def is_known(value, known):
    """Whether a value is a string that a dict or tuple of strings has."""
    # Other values may be such that a dict cannot be asked for them.
    return isinstance(value, str) and value in known


def rises(things):
    """Whether each of the things is above the one ahead of it."""
    return all([one < other for one, other in zip(things, things[1:])])


def is_lot_of(value, known):
    """Whether a value is a lot of strings that a dict or tuple of strings has."""
    if not isinstance(value, tuple):
        return False
    return all([is_known(name, known) for name in value]) and rises(value)
