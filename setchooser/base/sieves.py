"""What one tie leaves of the values at its places."""

from setchooser.base.masks import VALUES_IN, WORTHS, rows_with

# Past so many answers a sieve begins anew, so that it stays small.
MOST_KEPT = 200000


class Sieve:
    """Tells which values stand in some row, and remembers what it told."""

    def __init__(self):
        self.told = {}
        self.rows_at = [[sum([rows_with(place, value) for value in taken]) for taken in VALUES_IN]
                        for place in range(len(WORTHS))]

    def left(self, rows, masks):
        """Of the rows with one of these values at each place, the masks of their values, place by place."""
        asked = (rows, masks)
        answer = self.told.get(asked)
        if answer is None:
            if len(self.told) == MOST_KEPT:
                self.told = {}
            answer = self.found(rows, masks)
            self.told[asked] = answer
        return answer

    def found(self, rows, masks):
        """As left, counted out."""
        for place, mask in enumerate(masks):
            rows = rows & self.rows_at[place][mask]
        return tuple([self.seen_at(rows, place) for place in range(len(masks))])

    def seen_at(self, rows, place):
        """The mask of the values that the rows have at the place."""
        return sum([1 << value for value in range(4) if rows & self.rows_at[place][1 << value]])
