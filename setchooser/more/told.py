"""Ties that nets tell, and nets in which such ties are spelled out."""

from setchooser.base.books import check_book, check_name
from setchooser.base.nets import MAX_APPLIED, MAX_UNKNOWNS, Net, check_belongs, check_net, is_unknowns
from setchooser.choose.tellers import Teller
from setchooser.errors import InvalidNet, InvalidOperation


def told(book, net, unknowns):
    """The set of the rows of the values that these unknowns have in all fillings of the net."""
    check_book(book)
    check_net(net)
    if not is_unknowns(net.size, unknowns):
        raise InvalidOperation("this is no tuple of one to three unknowns of the net")
    check_belongs(book, net)
    return tuple(Teller(book, net).told_at(unknowns))


def with_told(book, name, net, unknowns):
    """The book with the told tie under this name."""
    check_book(book)
    check_name(name)
    rows = told(book, net, unknowns)
    return book.with_tie(name, len(unknowns), rows)


def spelled_out(net, name, other, unknowns):
    """The net with a copy of the other net in the place of each applied tie with this name."""
    check_net(net)
    check_name(name)
    check_net(other)
    if not is_unknowns(other.size, unknowns) or len(set(unknowns)) < len(unknowns):
        raise InvalidOperation("this is no tuple of one to three different unknowns of the other net")
    replaced = [places for one, places in net.ties if one == name]
    if not all([len(places) == len(unknowns) for places in replaced]):
        raise InvalidOperation("the tie is applied with another number of places")
    more = other.size - len(unknowns)
    if net.size + len(replaced) * more > MAX_UNKNOWNS:
        raise InvalidNet("there would be too many unknowns")
    moves = [move_of(other, unknowns, places, net.size + number * more) for number, places in enumerate(replaced)]
    staying = [tie for tie in net.ties if tie[0] != name]
    return Net(net.size + len(replaced) * more, with_copies(staying, other, moves))


def move_of(other, unknowns, places, new):
    """The unknowns to which those of a copy are moved: some to these places, the others to new ones."""
    move = {unknown: place for unknown, place in zip(unknowns, places)}
    for unknown in range(other.size):
        if unknown not in move:
            move[unknown] = new
            new += 1
    return move


def with_copies(ties, other, moves):
    """The set of these applied ties and of those of the other net, moved in each of these ways."""
    names = {}
    for name, unknowns in other.ties:
        names.setdefault(unknowns, []).append(name)
    found = {tie: True for tie in ties}
    for unknowns in names:
        # Many copies can move these unknowns alike, and then they apply the same ties.
        for moved in {tuple([move[unknown] for unknown in unknowns]): True for move in moves}:
            for name in names[unknowns]:
                found[(name, moved)] = True
            if len(found) > MAX_APPLIED:
                raise InvalidNet("there would be too many applied ties")
    return tuple(sorted(found))
