"""What one tie leaves of the values at its places."""

from setchooser.base.masks import MANY_IN, VALUES_IN, WORTHS, rows_with

# Past so many answers a sieve begins anew, so that it stays small.
MOST_KEPT = 200000


class Sieve:
    """Tells which values stand in some row, and remembers what it told."""

    def __init__(self):
        self.told = {}
        self.rows_at = [[sum([rows_with(place, value) for value in taken]) for taken in VALUES_IN]
                        for place in range(len(WORTHS))]

    def left(self, rows, masks):
        """Of the rows with one of these values at each place, the masks of their values, place by place."""
        asked = (rows, masks)
        answer = self.told.get(asked)
        if answer is None:
            if len(self.told) == MOST_KEPT:
                self.told = {}
            answer = self.found(rows, masks)
            self.told[asked] = answer
        return answer

    def found(self, rows, masks):
        """As left, counted out."""
        for place, mask in enumerate(masks):
            rows = rows & self.rows_at[place][mask]
        return tuple([self.seen_at(rows, place) for place in range(len(masks))])

    def seen_at(self, rows, place):
        """The mask of the values that the rows have at the place."""
        return sum([1 << value for value in range(4) if rows & self.rows_at[place][1 << value]])

    def values_in(self, mask):
        """The values of the mask, ascending."""
        return VALUES_IN[mask]

    def many_in(self, mask):
        """The number of the values of the mask."""
        return MANY_IN[mask]


class WideSieve(Sieve):
    """A sieve for any number of values. A set of rows is told to it by the number under which it keeps them.

    It keeps rows of three places, with 0 at those ahead of the places that they have: a dict from the
    values at the first place to dicts from those at the second one to the masks of those at the last one.
    """

    def __init__(self):
        super().__init__()
        self.tables = []

    def keep(self, rows):
        """Keeps a set of rows. Returns the number that stands for it."""
        table = {}
        for row in rows:
            first, second, last = (0,) * (len(WORTHS) - len(row)) + row
            ends = table.setdefault(first, {})
            ends[second] = ends.get(second, 0) | 1 << last
        self.tables.append(table)
        return len(self.tables) - 1

    def found(self, rows, masks):
        """As left, counted out."""
        table = self.tables[rows]
        firsts, seconds, lasts = (1,) * (len(WORTHS) - len(masks)) + masks
        one = two = three = 0
        for first in self.values_in(firsts):
            for second, ends in table.get(first, {}).items():
                if seconds >> second & 1 and ends & lasts:
                    one = one | 1 << first
                    two = two | 1 << second
                    three = three | ends & lasts
                    if two == seconds and three == lasts:
                        # What is still to be known is whether the other first values stand in some row.
                        break
        return (one, two, three)[len(WORTHS) - len(masks):]

    def values_in(self, mask):
        """The values of the mask, ascending."""
        return tuple([value for value in range(mask.bit_length()) if mask >> value & 1])

    def many_in(self, mask):
        """The number of the values of the mask."""
        return f"{mask:b}".count("1")
