"""Integers, names and sets, the smallest things that are passed."""

MAX_LETTERS = 8
LETTERS = "abcdefghijklmnopqrstuvwxyz"
# The least integer of more than sixty digits.
TOO_LONG = 10 ** 60


def is_integer(value):
    """Whether the value is an integer of at most sixty digits."""
    return isinstance(value, int) and not isinstance(value, bool) and -TOO_LONG < value < TOO_LONG


def is_number(value):
    """Whether the value is an integer of at least 0."""
    return is_integer(value) and value >= 0


def is_below(value, limit):
    """Whether the value is one of the numbers 0, 1 and so on that are less than the limit."""
    return is_number(value) and value < limit


def is_name(value):
    """Whether the value is a string of one to eight letters."""
    return (isinstance(value, str) and 1 <= len(value) <= MAX_LETTERS
            and all([letter in LETTERS for letter in value]))


def is_ascending(values):
    """Whether each of the values, which can be compared, is greater than the one ahead of it."""
    return all([one < other for one, other in zip(values, values[1:])])


def tuples_of(parts, length):
    """All tuples with so many of the parts, in the order that the parts have."""
    told = [()]
    for _ in range(length):
        told = [(*before, part) for before in told for part in parts]
    return told


def is_set(value):
    """Whether the value is an ascending tuple of integers of at least 0."""
    return isinstance(value, tuple) and all([is_number(part) for part in value]) and is_ascending(value)
