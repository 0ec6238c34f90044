"""Walks: the fillings of a web one after another."""

from setchooser.base.webs import any_filling, narrow_all

# After so many dead ends behind one another each further step is proved to lead to a filling first.
PATIENCE = 30


class Walk:
    """A place among the tuples of values of the masks, from which it goes to the next filling of a web.

    The layer with index k has the masks that are left when the first k unknowns have their values.
    """

    def __init__(self, web, masks):
        self.web = web
        self.masks = list(masks)
        self.layers = []
        self.chosen = []
        self.dead_ends = 0

    def following(self):
        """The first filling, and at each later call the next one, in Python's order, or None."""
        if self.layers:
            least = self.step_back()
        else:
            least = self.begin()
        while least is not None:
            if len(self.chosen) == self.web.many:
                self.dead_ends = 0
                return tuple(self.chosen)
            least = 0 if self.step_on(least) else self.step_back()
        return None

    def begin(self):
        """Makes the first layer. The least value that may come next, None if there is no filling."""
        masks = list(self.masks)
        self.layers.append(masks)
        if not narrow_all(self.web, masks):
            return None
        return None if any_filling(self.web, masks) is None else 0

    def step_on(self, least):
        """Gives the next unknown its first value from the least one on that may do: whether one did."""
        unknown = len(self.chosen)
        layer = self.layers[-1]
        for value in self.web.sieve.values_in(layer[unknown]):
            if value >= least:
                masks = list(layer)
                masks[unknown] = 1 << value
                if self.stays_open(masks, unknown):
                    self.layers.append(masks)
                    self.chosen.append(value)
                    return True
                self.dead_ends += 1
        return False

    def stays_open(self, masks, unknown):
        """Narrows the masks by the value that the unknown has now. Whether they may hold a filling."""
        if masks[unknown] != self.layers[-1][unknown]:
            if self.web.narrow(masks, self.web.no_blame(), self.web.touching[unknown], []) is not None:
                return False
        return self.dead_ends < PATIENCE or any_filling(self.web, masks) is not None

    def step_back(self):
        """Takes the last value back. The least value that may come in its place, None if there is none."""
        if not self.chosen:
            return None
        self.layers.pop()
        return self.chosen.pop() + 1
