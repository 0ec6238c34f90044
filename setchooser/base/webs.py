"""Webs: a net as a search sees it.

A part of a web holds the applied ties that stand at the same unknowns, whatever their order: the
ascending tuple of these unknowns, the set of rows over them that all these ties allow, and the ties.
What stands for a set of rows, and for a set of values, is the business of the sieve.
"""

from setchooser.base.masks import full_mask, rows_mask
from setchooser.base.sieves import Sieve


class Web:
    """The unknowns and parts of a net, and how often each unknown has stood in a part that failed."""

    def __init__(self, many, full, parts, sieve):
        self.many = many
        self.full = full
        self.parts = parts
        self.sieve = sieve
        self.touching = [[] for _ in range(many)]
        for index, part in enumerate(parts):
            for unknown in part[0]:
                self.touching[unknown].append(index)
        self.weights = [len(touching) for touching in self.touching]

    def whole(self):
        """The masks of all values for each unknown."""
        return [self.full for _ in range(self.many)]

    def no_blame(self):
        """For each unknown the bits of no unknown."""
        return [0 for _ in range(self.many)]

    def narrow(self, masks, blame, first, trail):
        """Strikes values from the masks by these parts, and by those that this makes worth another look.

        Blame has for each unknown the bits of the unknowns whose given values have struck values of
        it, and is kept up. The trail gets an unknown, a part and the mask that is left for each time
        that the part strikes values of the unknown. Returns an unknown that has no value left, or None.
        """
        queue = list(first)
        waiting = {index: True for index in queue}
        at = 0
        while at < len(queue):
            index = queue[at]
            at += 1
            del waiting[index]
            changed = self.struck_by(index, masks)
            fault = blame_of(self.parts[index][0], blame) if changed else 0
            for unknown, mask in changed:
                masks[unknown] = mask
                blame[unknown] = fault
                trail.append((unknown, index, mask))
                if not mask:
                    self.weigh(index)
                    return unknown
                for other in self.touching[unknown]:
                    if other != index and other not in waiting:
                        queue.append(other)
                        waiting[other] = True
        return None

    def struck_by(self, index, masks):
        """The pairs of an unknown of the part, of which the part strikes values, and what it leaves."""
        scope = self.parts[index][0]
        before = tuple([masks[unknown] for unknown in scope])
        after = self.sieve.left(self.parts[index][1], before)
        if before == after:
            return []
        return [(unknown, new) for unknown, old, new in zip(scope, before, after) if old != new]

    def weigh(self, index):
        """Notes that the part has failed."""
        for unknown in self.parts[index][0]:
            self.weights[unknown] += 1

    def pick(self, masks):
        """The unknown to try next: few values left, and a great weight. None if no choice is left."""
        best = None
        few = 0
        for unknown, mask in enumerate(masks):
            many = self.sieve.many_in(mask)
            if many > 1 and self.touching[unknown]:
                if best is None or many * self.weights[best] < few * self.weights[unknown]:
                    best = unknown
                    few = many
        return best

    def settle(self, masks, blame):
        """A filling with values of the masks, which are narrowed already, or None, and what is to blame.

        What is to blame are the bits of unknowns: whatever the others are given, there is no filling.
        """
        unknown = self.pick(masks)
        if unknown is None:
            return tuple([self.sieve.values_in(mask)[0] for mask in masks]), 0
        faults = blame[unknown]
        for value in self.sieve.values_in(masks[unknown]):
            below = list(masks)
            below[unknown] = 1 << value
            reasons = list(blame)
            reasons[unknown] = 1 << unknown
            empty = self.narrow(below, reasons, self.touching[unknown], [])
            if empty is None:
                filling, fault = self.settle(below, reasons)
                if filling is not None:
                    return filling, 0
            else:
                fault = reasons[empty]
            if not fault >> unknown & 1:
                # The value does not matter, so the other ones would fail as well.
                return None, fault
            faults = faults | fault
        return None, faults & ~(1 << unknown)


def blame_of(scope, blame):
    """All that is to blame for what has been struck of these unknowns."""
    fault = 0
    for unknown in scope:
        fault = fault | blame[unknown]
    return fault


def any_filling(web, masks):
    """A filling with values of the masks, which are narrowed already, or None."""
    return web.settle(masks, web.no_blame())[0]


def narrow_all(web, masks):
    """Narrows the masks by all parts. Whether each unknown is left some value."""
    # Narrowing alone does not see the empty list of an unknown without ties.
    return 0 not in masks and web.narrow(masks, web.no_blame(), list(range(len(web.parts))), []) is None


def first_settled(web, masks):
    """The filling with values of the masks that a search finds first, or None."""
    left = list(masks)
    return any_filling(web, left) if narrow_all(web, left) else None


def does_settle(web, values):
    """Whether these values, one for each unknown, are a filling."""
    return all([rows_mask((tuple([values[unknown] for unknown in scope]),)) & rows
                for scope, rows, ties in web.parts])


def web_of(book, net):
    """The web of a net that belongs to the book."""
    rows = {}
    ties = {}
    for tie in net.ties:
        name, unknowns = tie
        scope = tuple(sorted(set(unknowns)))
        shape = (name, tuple([scope.index(unknown) for unknown in unknowns]))
        if shape not in rows:
            rows[shape] = rows_mask(rows_over(book[name], shape[1]))
        ties.setdefault(scope, []).append((rows[shape], tie))
    parts = [part_of(scope, pairs) for scope, pairs in ties.items()]
    return Web(net.size, full_mask(book.size), parts, Sieve())


def part_of(scope, pairs):
    """The part of a web with these unknowns, of pairs of a set of rows over them and an applied tie."""
    common = pairs[0][0]
    for rows, _ in pairs:
        common = common & rows
    return scope, common, [tie for rows, tie in pairs]


def rows_over(rows, slots):
    """The rows over different unknowns, which stand at the places in the way that the slots tell."""
    told = {}
    for row in rows:
        values = {}
        for slot, value in zip(slots, row):
            if values.setdefault(slot, value) != value:
                break
        else:
            told[tuple([values[slot] for slot in sorted(values)])] = True
    return list(told)
