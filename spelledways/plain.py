"""What the document calls integers, numbers and sequences: True and False are none of the first two."""

LETTERS = "abcdefghijklmnopqrstuvwxyz"
MOST_NAME_LETTERS = 8


def is_whole(value):
    """Whether a value is an integer."""
    return isinstance(value, int) and not isinstance(value, bool)


def is_number(value):
    """Whether a value is an integer from 0 on."""
    return is_whole(value) and value >= 0


def is_sequence(value):
    """Whether a value is a list or a tuple."""
    return isinstance(value, (list, tuple))


def is_tuple_of(value, many):
    """Whether a value is a tuple of so many things."""
    return isinstance(value, tuple) and len(value) == many


def is_name(value):
    """Whether a value is a string of 1 to 8 lower-case letters."""
    if not isinstance(value, str) or not 1 <= len(value) <= MOST_NAME_LETTERS:
        return False
    return all([sign in LETTERS for sign in value])
