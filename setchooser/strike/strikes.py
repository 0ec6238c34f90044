"""Striking, and what shows which values it strikes."""

from setchooser.base.books import is_set_of_values
from setchooser.base.fillings import check_both
from setchooser.base.masks import VALUES_IN, full_mask, mask_of, rows_mask
from setchooser.base.names import is_below, is_integer
from setchooser.base.sieves import Sieve


def whole_masks(book, net):
    """The masks with which striking begins if no lists are given."""
    return [full_mask(book.size) for _ in range(net.size)]


def struck(book, net, given):
    """The masks that striking leaves of the given ones, and the dict of the ranks in the order of the rounds."""
    rows = {name: rows_mask(book[name]) for name in book.names}
    standing = standing_in(net)
    masks = list(given)
    sieve = Sieve()
    ranks = {}
    ties = list(net.ties)
    rank = 0
    while ties:
        rank += 1
        left = left_by(sieve, rows, ties, masks)
        for unknown, mask in left.items():
            for value in VALUES_IN[masks[unknown] & ~mask]:
                ranks[unknown, value] = rank
            masks[unknown] = mask
        # Other ties have no unknown with a new list, so they have struck all that they can strike.
        ties = list({tie: True for unknown in left for tie in standing[unknown]})
    return masks, ranks


def ascending(ranks):
    """The dict of the same ranks with its keys in Python's order."""
    return {pair: ranks[pair] for pair in sorted(ranks)}


def first_empty(masks):
    """The least unknown whose mask is empty, or None."""
    return masks.index(0) if 0 in masks else None


def standing_in(net):
    """For each unknown the applied ties in which it stands."""
    standing = [[] for _ in range(net.size)]
    for tie in net.ties:
        for unknown in sorted(set(tie[1])):
            standing[unknown].append(tie)
    return standing


def left_by(sieve, rows, ties, masks):
    """The dict of what one round leaves to the unknowns of which it strikes values."""
    left = {}
    for name, unknowns in ties:
        before = tuple([masks[unknown] for unknown in unknowns])
        after = sieve.left(rows[name], before)
        if after != before:
            for unknown, mask in zip(unknowns, after):
                if mask != masks[unknown]:
                    left[unknown] = left.get(unknown, masks[unknown]) & mask
    return left


def lists(book, net):
    """The tuple of the lists that striking leaves, one for each unknown."""
    check_both(book, net)
    return tuple([VALUES_IN[mask] for mask in struck(book, net, whole_masks(book, net))[0]])


def strikes(book, net):
    """The dict from the pairs of an unknown and a value that are struck to their ranks."""
    check_both(book, net)
    return ascending(struck(book, net, whole_masks(book, net))[1])


def are_lists(book, net, value):
    """Whether the value has a list for each unknown, of values that each tie lets stand there."""
    check_both(book, net)
    if not isinstance(value, tuple) or len(value) != net.size:
        return False
    if not all([is_set_of_values(book, part) for part in value]):
        return False
    masks = [mask_of(part) for part in value]
    rows = {name: rows_mask(book[name]) for name in book.names}
    return not left_by(Sieve(), rows, net.ties, masks)


def is_ranks(book, net, value):
    """Whether the value is a dict from pairs of an unknown and a value to integers of at least 1."""
    return isinstance(value, dict) and all([
        isinstance(pair, tuple) and len(pair) == 2 and is_below(pair[0], net.size) and is_below(pair[1], book.size)
        and is_integer(rank) and rank >= 1 for pair, rank in value.items()])


def is_strikes(book, net, value):
    """Whether the value is a dict of strikes, each of which is shown by such ones with smaller integers."""
    check_both(book, net)
    if not is_ranks(book, net, value):
        return False
    rows = {name: rows_mask(book[name]) for name in book.names}
    standing = standing_in(net)
    sieve = Sieve()
    for pair, rank in value.items():
        masks = masks_from(book, net, value, rank)
        if shown_by(sieve, rows, standing[pair[0]], masks, pair) is None:
            return False
    return True


def masks_from(book, net, ranks, rank):
    """The masks of the values that have no smaller integer than this one."""
    masks = whole_masks(book, net)
    for pair, other in ranks.items():
        if other < rank:
            masks[pair[0]] = masks[pair[0]] & ~(1 << pair[1])
    return masks


def shown_by(sieve, rows, ties, masks, pair):
    """The first of the ties, and the first place of the unknown, that shows that the value is to be struck, or None.

    No row of the tie has the value at this place and values of the masks at all other ones.
    """
    for tie in ties:
        name, unknowns = tie
        for place, unknown in enumerate(unknowns):
            if unknown == pair[0]:
                tried = [masks[other] for other in unknowns]
                tried[place] = 1 << pair[1]
                if not sieve.left(rows[name], tuple(tried))[place]:
                    return tie, place
    return None


def emptied(book, net):
    """The least unknown whose list is left empty, or None."""
    check_both(book, net)
    return first_empty(struck(book, net, whole_masks(book, net))[0])
