"""What unknowns of a net have in its fillings."""

from setchooser.base.masks import VALUES_IN
from setchooser.base.memories import Memory
from setchooser.base.webs import any_filling, narrow_all, web_of
from setchooser.choose.choosers import first_into, fixing_masks


class Teller:
    """Tells the values that some unknowns have in all fillings of a net that belongs to a book."""

    def __init__(self, book, net):
        self.whole_book = book
        self.web = web_of(book, net)
        self.fixed = Memory()

    def told_at(self, unknowns):
        """The ascending list of the rows of the values of these unknowns in all fillings."""
        masks = self.web.whole()
        return self.told_from(masks, unknowns, 0) if narrow_all(self.web, masks) else []

    def told_from(self, masks, unknowns, given):
        """As told_at, with values of the masks, which are narrowed already. Given are the values given ahead."""
        if not unknowns:
            return [()] if self.is_open(masks, given) else []
        rows = []
        first = unknowns[0]
        for value in VALUES_IN[masks[first]]:
            below = list(masks)
            below[first] = 1 << value
            if self.web.narrow(below, self.web.no_blame(), self.web.touching[first], []) is None:
                rows.extend([(value, *row) for row in self.told_from(below, unknowns[1:], given | 1 << value)])
        return rows

    def is_open(self, masks, given):
        """Whether there is a filling with values of the masks, which are narrowed already."""
        # A good chooser that fixes the given values makes a filling of what is left, so no search is needed.
        return self.is_fixed(0) and self.is_fixed(given) or any_filling(self.web, masks) is not None

    def is_fixed(self, values):
        """Whether some good chooser fixes the values of the mask."""
        known = self.fixed.knows(values)
        if known is not None:
            return known
        table = first_into(self.whole_book, fixing_masks(self.whole_book, VALUES_IN[values]))
        if table is None:
            self.fixed.learn(values, False)
        else:
            kept = [value for value in range(self.whole_book.size) if table[(value,)] == value]
            self.fixed.learn(sum([1 << value for value in kept]), True)
        return table is not None
