"""Sets of values, and sets of rows, as the bits of integers.

Bit v of a mask stands for value v. A row has the number that has its values as its digits, to base
four, that of the first place last; bit r of a set of rows stands for the row with number r.
"""

VALUES_IN = (
    (), (0,), (1,), (0, 1), (2,), (0, 2), (1, 2), (0, 1, 2),
    (3,), (0, 3), (1, 3), (0, 1, 3), (2, 3), (0, 2, 3), (1, 2, 3), (0, 1, 2, 3))
MANY_IN = (0, 1, 1, 2, 1, 2, 2, 3, 1, 2, 2, 3, 2, 3, 3, 4)
# What a value counts at each place, and the sets of all rows that have value 0 there.
WORTHS = (1, 4, 16)
ZERO_ROWS = (0x1111111111111111, 0x000F000F000F000F, 0xFFFF)


def full_mask(size):
    """All values of a book of this size."""
    return (1 << size) - 1


def mask_of(values):
    """The mask of different values."""
    return sum([1 << value for value in values])


def rows_mask(rows):
    """The set of different rows."""
    numbers = [sum([value * WORTHS[place] for place, value in enumerate(row)]) for row in rows]
    return sum([1 << number for number in numbers])


def rows_with(place, value):
    """The set of all rows that have this value at the place."""
    return ZERO_ROWS[place] << (WORTHS[place] * value)
