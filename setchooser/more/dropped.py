"""Ties dropped: the sets of ties of a book that are decided, and the ties that spoil them."""

from setchooser.base.books import check_book, is_names_of
from setchooser.base.memories import Memory
from setchooser.base.nets import known_net
from setchooser.base.trees import case_tree, read_tree
from setchooser.base.webs import does_settle, first_settled, web_of
from setchooser.choose.choosers import shadow_net
from setchooser.choose.decided import is_decided
from setchooser.errors import InvalidOperation


class Sorter:
    """Tells which sets of ties of a book are decided. Bit k of a mask stands for the tie with the k-th name.

    It remembers for each chooser that it found all the ties that this one keeps.
    """

    def __init__(self, book):
        self.whole_book = book
        self.whole_net = shadow_net(book)
        self.webs = [self.web_with(1 << index) for index in range(len(book))]
        self.kept = Memory()

    def names_in(self, mask):
        """The set of the names that the mask stands for."""
        return tuple([name for index, name in enumerate(self.whole_book.names) if mask >> index & 1])

    def web_with(self, mask):
        """The web of the set net of these ties."""
        names = self.names_in(mask)
        ties = tuple([tie for tie in self.whole_net.ties if tie[0] in names])
        return web_of(self.whole_book, known_net(self.whole_net.size, ties))

    def has_chooser(self, mask):
        """Whether some chooser keeps these ties."""
        known = self.kept.knows(mask)
        if known is not None:
            return known
        web = self.web_with(mask)
        values = first_settled(web, web.whole())
        if values is None:
            self.kept.learn(mask, False)
        else:
            kept = [1 << index for index, other in enumerate(self.webs) if does_settle(other, values)]
            self.kept.learn(sum(kept), True)
        return values is not None

    def decided(self):
        """For each mask, ascending, whether these ties are decided."""
        return [self.has_chooser(mask) for mask in range(1 << len(self.webs))]

    def names_in_all(self, masks):
        """The ascending tuple of the sets of names that the masks stand for."""
        return tuple(sorted([self.names_in(mask) for mask in masks]))


def greatest_decided(book):
    """The decided sets of names that lie in no other decided one, ascending."""
    check_book(book)
    sorter = Sorter(book)
    decided = sorter.decided()
    return sorter.names_in_all([mask for mask, is_one in enumerate(decided) if is_one and not any(
        [decided[mask | 1 << index] for index in range(len(book)) if not mask >> index & 1])])


def least_undecided(book):
    """The sets of names that are not decided and of which each smaller one is, ascending."""
    check_book(book)
    sorter = Sorter(book)
    decided = sorter.decided()
    return sorter.names_in_all([mask for mask, is_one in enumerate(decided) if not is_one and all(
        [decided[mask & ~(1 << index)] for index in range(len(book)) if mask >> index & 1])])


def check_names_of(book, names):
    """An error unless these are a book and a set of names of its ties."""
    check_book(book)
    if not is_names_of(book, names):
        raise InvalidOperation("this is no set of names of ties of the book")


def others(book, names):
    """The names of the other ties of the book, ascending."""
    return [name for name in book.names if name not in names]


def with_other(book, names, other):
    """The book with these ties and one other tie alone."""
    return book.only(tuple(sorted([*names, other])))


def check_greatest(book, names):
    """An error unless these are a book and a greatest decided set of names of its ties."""
    check_names_of(book, names)
    if not is_decided(book.only(names)):
        raise InvalidOperation("these ties are not decided")
    if any([is_decided(with_other(book, names, other)) for other in others(book, names)]):
        raise InvalidOperation("these ties are decided with another one")


def spoilers_of(book, names):
    """For each tie outside of a greatest decided set its name, and a case tree of the set net with it."""
    check_greatest(book, names)
    pairs = []
    for other in others(book, names):
        spoiled = with_other(book, names, other)
        pairs.append((other, case_tree(spoiled, web_of(spoiled, shadow_net(spoiled)))))
    return tuple(pairs)


def is_spoilers_of(book, names, value):
    """Whether the value is a tuple of pairs of a name and a case tree as spoilers_of tells them."""
    check_greatest(book, names)
    outside = others(book, names)
    if not isinstance(value, tuple) or len(value) != len(outside):
        return False
    return all([is_spoiler_pair(with_other(book, names, other), other, pair) for other, pair in zip(outside, value)])


def is_spoiler_pair(book, name, value):
    """Whether the value is a pair of the name and a case tree of the set net of the book."""
    return (isinstance(value, tuple) and len(value) == 2 and value[0] == name
            and read_tree(book, shadow_net(book), value[1]) is not None)


def needed_for(book, names):
    """Of a set of names that is not decided, those without which the others are, ascending."""
    check_names_of(book, names)
    if is_decided(book.only(names)):
        raise InvalidOperation("these ties are decided")
    return tuple([name for name in names
                  if is_decided(book.only(tuple([other for other in names if other != name])))])
