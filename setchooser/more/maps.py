"""Maps between nets, and trees, whose fillings striking alone finds."""

from setchooser.base.fillings import check_both
from setchooser.base.masks import full_mask, rows_mask
from setchooser.base.names import is_below
from setchooser.base.nets import MAX_UNKNOWNS, Net, check_net
from setchooser.base.sieves import Sieve, WideSieve
from setchooser.base.walks import Walk
from setchooser.base.webs import Web, rows_over, web_of
from setchooser.errors import Emptied, InvalidOperation, TooMany
from setchooser.strike.strikes import first_empty, masks_from, shown_by, standing_in, struck, whole_masks


def check_nets(one, other):
    """An error unless these are nets."""
    check_net(one)
    check_net(other)


def does_move(one, other, value):
    """As is_net_map, for what are known to be nets."""
    if not isinstance(value, tuple) or len(value) != one.size:
        return False
    if not all([is_below(part, other.size) for part in value]):
        return False
    ties = {tie: True for tie in other.ties}
    return all([(name, tuple([value[unknown] for unknown in unknowns])) in ties for name, unknowns in one.ties])


def is_net_map(one, other, value):
    """Whether the value is a net map from the first net to the second one."""
    check_nets(one, other)
    return does_move(one, other, value)


def rows_by_form(net):
    """The dict from pairs of a name and a number of places to the tuples of unknowns at which this is applied."""
    found = {}
    for name, unknowns in net.ties:
        found.setdefault((name, len(unknowns)), []).append(unknowns)
    return found


def map_web(one, other):
    """The web of the unknowns of the first net, for which the unknowns of the second one are the values."""
    rows = rows_by_form(other)
    sieve = WideSieve()
    kept = {}
    parts = []
    for tie in one.ties:
        name, unknowns = tie
        scope = tuple(sorted(set(unknowns)))
        shape = (name, tuple([scope.index(unknown) for unknown in unknowns]))
        if shape not in kept:
            kept[shape] = sieve.keep(rows_over(rows.get((name, len(unknowns)), []), shape[1]))
        parts.append((scope, kept[shape], [tie]))
    return Web(one.size, full_mask(other.size), parts, sieve)


def first_net_map(one, other):
    """The first net map in Python's order, or None."""
    check_nets(one, other)
    web = map_web(one, other)
    return Walk(web, web.whole()).following()


def led_back(one, other, moved, values):
    """What the values, one for each unknown of the second net, are at the unknowns to which a net map moves."""
    if not is_net_map(one, other, moved):
        raise InvalidOperation("this is no net map")
    if not isinstance(values, tuple) or len(values) != other.size:
        raise InvalidOperation("this is no tuple with something for each unknown of the second net")
    return tuple([values[unknown] for unknown in moved])


def is_forest(net):
    """As is_tree, for what is known to be a net."""
    # Unknowns that ties hold together belong to one group; a tie between two of one group closes a ring.
    groups = list(range(net.size))
    for name, unknowns in net.ties:
        held = [groups[unknown] for unknown in unknowns]
        if len(set(held)) < len(held):
            return False
        groups = [held[0] if group in held else group for group in groups]
    return True


def is_tree(net):
    """Whether no unknown stands twice in an applied tie, and no applied ties make a ring."""
    check_net(net)
    return is_forest(net)


def fill_tree(book, net):
    """The first filling of a tree in Python's order."""
    check_both(book, net)
    if not is_forest(net):
        raise InvalidOperation("the net is no tree")
    masks = struck(book, net, whole_masks(book, net))[0]
    if 0 in masks:
        raise Emptied(first_empty(masks))
    return Walk(web_of(book, net), masks).following()


def first_struck(masks, unknowns, row, place):
    """The first place but this one at which the row has a value that is not in the mask of the unknown there."""
    return [index for index, unknown in enumerate(unknowns)
            if index != place and not masks[unknown] >> row[index] & 1][0]


class Unfolding:
    """The unfolding of a net with these ranks of strikes, which leave the unknown no value."""

    def __init__(self, book, net, ranks, unknown):
        self.rows = {name: book[name] for name in book.names}
        self.sets_of_rows = {name: rows_mask(book[name]) for name in book.names}
        self.masks = {rank: masks_from(book, net, ranks, rank) for rank in sorted(set(list(ranks.values())))}
        self.standing = standing_in(net)
        self.ranks = ranks
        self.sieve = Sieve()
        self.moved = [unknown]
        self.wanted = [{value: True for value in range(book.size)}]
        self.applied = {}

    def unfolded(self):
        """The unfolding, which is a tree, and the net map from it."""
        at = 0
        while at < len(self.moved):
            for value in sorted(self.wanted[at]):
                self.strike(at, value)
            at += 1
        return Net(len(self.moved), tuple(sorted(self.applied))), tuple(self.moved)

    def strike(self, at, value):
        """Applies to this unknown of the unfolding, and to new ones, the tie that shows that the value is struck."""
        pair = (self.moved[at], value)
        masks = self.masks[self.ranks[pair]]
        (name, unknowns), place = shown_by(self.sieve, self.sets_of_rows, self.standing[pair[0]], masks, pair)
        told = [at if index == place else self.grow(unknown) for index, unknown in enumerate(unknowns)]
        self.applied[(name, tuple(told))] = True
        for row in self.rows[name]:
            if row[place] == value:
                other = first_struck(masks, unknowns, row, place)
                self.wanted[told[other]][row[other]] = True

    def grow(self, unknown):
        """Gives the unfolding a new unknown, which is moved to this one of the net. Returns it."""
        if len(self.moved) == MAX_UNKNOWNS:
            raise TooMany(MAX_UNKNOWNS)
        self.moved.append(unknown)
        self.wanted.append({})
        return len(self.moved) - 1


def tree_paper(book, net):
    """None if striking leaves each unknown some value, otherwise a tree without a filling and a net map from it."""
    check_both(book, net)
    masks, ranks = struck(book, net, whole_masks(book, net))
    if 0 not in masks:
        return None
    return Unfolding(book, net, ranks, first_empty(masks)).unfolded()


def is_tree_paper(book, net, value):
    """Whether the value is what tree_paper may return."""
    check_both(book, net)
    if 0 not in struck(book, net, whole_masks(book, net))[0]:
        return value is None
    if not isinstance(value, tuple) or len(value) != 2 or not isinstance(value[0], Net):
        return False
    tree, moved = value
    # A tree has a filling just if striking leaves each unknown some value.
    return (is_forest(tree) and does_move(tree, net, moved)
            and 0 in struck(book, tree, whole_masks(book, tree))[0])
