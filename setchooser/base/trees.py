"""Case trees: how the cases are gone through in which a net could be filled."""

from setchooser.base.masks import rows_mask, rows_with
from setchooser.base.names import is_below
from setchooser.base.webs import Web


class Clasher:
    """Tells which applied ties of nets that belong to a book clash."""

    def __init__(self, book):
        self.rows = {name: rows_mask(book[name]) for name in book.names}

    def is_clash(self, tie, values):
        """Whether no row of the applied tie has the values of the unknowns in the dict."""
        name, unknowns = tie
        rows = self.rows[name]
        for place, unknown in enumerate(unknowns):
            if unknown in values:
                rows = rows & rows_with(place, values[unknown])
        return not rows

    def needed_by(self, tie, values):
        """The bits of the indices in the dict of unknowns of which alone the values make the tie clash."""
        needed = {unknown: values[unknown] for unknown in values if unknown in tie[1]}
        for unknown in reversed(list(needed)):
            fewer = {other: value for other, value in needed.items() if other != unknown}
            if self.is_clash(tie, fewer):
                needed = fewer
        return sum([1 << index for index, unknown in enumerate(values) if unknown in needed])

    def is_clash_in(self, web, unknown, values):
        """Whether some applied tie of the web at the unknown clashes."""
        for index in web.touching[unknown]:
            for tie in web.parts[index][2]:
                if self.is_clash(tie, values):
                    return True
        return False


class Planter:
    """Makes the case tree of a web without a filling.

    What is asked on a way is a dict from the unknowns to their values on it, in the order of asking.
    A branch is a pair: the items of a case tree, and the bits of the indices in that dict of the
    unknowns that matter for it.
    """

    def __init__(self, book, web):
        self.many = book.size
        self.web = web
        self.clasher = Clasher(book)

    def tree(self):
        """A case tree as a tuple."""
        branch = self.leaf(self.web, list(range(len(self.web.parts))), {})
        if branch is None:
            branch = self.anew(self.web, {})
        return tuple(branch[0])

    def leaf(self, web, indices, values):
        """The branch of an applied tie that clashes, in these parts of the web, or None."""
        best = None
        for index in indices:
            for tie in web.parts[index][2]:
                if self.clasher.is_clash(tie, values):
                    needed = self.clasher.needed_by(tie, values)
                    if best is None or needed < best[1]:
                        best = [tie], needed
        return best

    def anew(self, web, values):
        """The branch behind these values, when striking begins with all the values of the others."""
        masks = web.whole()
        trail = []
        if narrow_behind(web, values, masks, trail):
            return self.asking(web, values, web.pick(masks), (masks, trail))
        return self.behind(web, values, trail)

    def going_on(self, web, values, before):
        """The branch behind these values, when striking goes on with what it left ahead of the last one.

        Before has the masks and the trail of what it did.
        """
        unknown = list(values)[-1]
        masks = list(before[0])
        trail = list(before[1])
        if not masks[unknown] >> values[unknown] & 1:
            return self.behind(web, values, trail_to(trail, unknown, values[unknown]))
        masks[unknown] = 1 << values[unknown]
        if web.narrow(masks, web.no_blame(), web.touching[unknown], trail) is None:
            return self.asking(web, values, web.pick(masks), (masks, trail))
        return self.behind(web, values, trail)

    def behind(self, web, values, trail):
        """The branch behind values with which striking leaves some unknown empty, as the trail tells."""
        part = part_web(web, causes(web, values, trail))
        return self.asking(part, values, self.nearest(part, values), None)

    def asking(self, web, values, unknown, before):
        """The branch behind these values that asks the unknown."""
        items = [unknown]
        needed = 0
        for value in range(self.many):
            asked = {**values, unknown: value}
            branch = self.leaf(web, web.touching[unknown], asked)
            if branch is None:
                branch = self.anew(web, asked) if before is None else self.going_on(web, asked, before)
            if not branch[1] >> len(values) & 1:
                # The unknown does not matter for this branch, so it need not be asked.
                return branch
            items.extend(branch[0])
            needed = needed | branch[1]
        return items, needed & ~(1 << len(values))

    def nearest(self, web, values):
        """The unknown to ask next, of a web that striking leaves empty behind these values.

        One with no or one value at which no applied tie clashes makes the tree no wider. If there is none,
        the one is asked behind whose values the parts that still count are few.
        """
        keys = [(len(self.unclashing(web, values, unknown)), unknown)
                for unknown, indices in enumerate(web.touching) if indices and unknown not in values]
        if min(keys)[0] > 1:
            keys = [(self.width(web, values, unknown), unknown) for many, unknown in keys]
        return min(keys)[1]

    def unclashing(self, web, values, unknown):
        """The values of the unknown at which, behind these values, no applied tie of the web clashes."""
        return [value for value in range(self.many)
                if not self.clasher.is_clash_in(web, unknown, {**values, unknown: value})]

    def width(self, web, values, unknown):
        """A guess at the size of the branch that asks the unknown, in a web that striking leaves empty."""
        total = 0
        for value in self.unclashing(web, values, unknown):
            masks = web.whole()
            trail = []
            asked = {**values, unknown: value}
            narrow_behind(web, asked, masks, trail)
            # Trees grow faster than the parts do that they go through.
            total = total + len(causes(web, asked, trail)) ** 3
        return total


def narrow_behind(web, values, masks, trail):
    """Narrows the masks of all values behind these values. Whether each unknown is left some value."""
    for unknown in values:
        masks[unknown] = 1 << values[unknown]
    return web.narrow(masks, web.no_blame(), list(range(len(web.parts))), trail) is None


def trail_to(trail, unknown, value):
    """The trail up to where the value of the unknown is struck."""
    for index, step in enumerate(trail):
        if step[0] == unknown and not step[2] >> value & 1:
            return trail[:index + 1]
    return trail


def causes(web, values, trail):
    """The indices of parts that alone leave the last unknown of the trail empty, with these values.

    A value that is given to an unknown stands by itself, whatever has been struck of the unknown.
    """
    last, final, _ = trail[-1]
    found = {final: True}
    wanted = {last: True}
    for unknown in web.parts[final][0]:
        wanted[unknown] = True
    for unknown, index, _ in reversed(list(trail)):
        if unknown in wanted and unknown not in values:
            found[index] = True
            for other in web.parts[index][0]:
                wanted[other] = True
    return sorted(found)


def part_web(web, indices):
    """The web with these parts alone."""
    return Web(web.many, web.full, [web.parts[index] for index in indices], web.sieve)


def case_tree(book, web):
    """A case tree of a book and a net without a filling, of which this is the web."""
    return Planter(book, web).tree()


def read_tree(book, net, value):
    """The dict of the asked unknowns and the list of the clashing ties of a case tree, None of another value."""
    if not isinstance(value, tuple):
        return None
    clasher = Clasher(book)
    asked = {}
    clashing = []
    values = {}
    for index, item in enumerate(value):
        if is_below(item, net.size) and item not in values:
            values[item] = 0
            asked[item] = True
        elif item in net and clasher.is_clash(item, values):
            clashing.append(item)
            step_over(values, book.size)
            if not values:
                return (asked, clashing) if index == len(value) - 1 else None
        else:
            return None
    return None


def step_over(values, size):
    """Goes from the end of a way, told by the values that are asked on it, to the next way, if there is one."""
    for unknown in reversed(list(values)):
        values[unknown] += 1
        if values[unknown] < size:
            return
        del values[unknown]
