"""Desks: a book and a net that belongs to it, both under change, and what is held meanwhile."""

from setchooser.base.books import check_name_of
from setchooser.base.fillings import case_paper, check_both
from setchooser.base.names import is_number
from setchooser.base.nets import check_belongs
from setchooser.choose.decided import check_decided, is_decided, is_open
from setchooser.choose.filled import net_paper
from setchooser.errors import Emptied, InvalidNumber, InvalidOperation, NothingToUndo
from setchooser.strike.strikes import emptied, lists, struck, whole_masks

HOLDS = ("decided", "filled")


class Trial:
    """A block at whose end a desk is as it was when the block began."""

    def __init__(self, tried):
        self.tried = tried
        self.states = ()
        self.at = 0

    def __enter__(self):
        self.states = self.tried._states
        self.at = self.tried._at
        return self.tried

    def __exit__(self, kind, value, trace):
        tried = self.tried
        tried._states = self.states
        tried._at = self.at


class Desk:
    """A book and a net under change.

    All states to which undoing and redoing can go stand in one tuple, each as the book, the net and the
    set of what is held. The tuple is replaced, never changed, so that trials and twins can keep it.
    """

    def __init__(self, book, net):
        check_both(book, net)
        self._states = ((book, net, ()),)
        self._at = 0

    @property
    def book(self):
        """The book."""
        return self._states[self._at][0]

    @property
    def net(self):
        """The net."""
        return self._states[self._at][1]

    @property
    def held(self):
        """The set of what is held."""
        return self._states[self._at][2]

    def __contains__(self, value):
        return value in self.held

    def __len__(self):
        return len(self.net.ties)

    def __eq__(self, other):
        return (isinstance(other, Desk) and self.book == other.book and self.net == other.net
                and self.held == other.held)

    def __str__(self):
        return f"desk of {len(self.book)} ties, {self.net.size} unknowns, {len(self)} applied"

    def tie(self, name, places, rows):
        """Puts this tie into the book, perhaps in the place of that with this name."""
        self._change_book(self.book.with_tie(name, places, rows))

    def untie(self, name):
        """Takes the tie with this name out of the book."""
        self._change_book(self.book.without_tie(name))

    def apply(self, name, unknowns):
        """Applies a tie of the book once more in the net."""
        check_name_of(self.book, name)
        self._change_net(self.net.with_tie(name, unknowns))

    def unapply(self, name, unknowns):
        """Takes an applied tie out of the net."""
        check_name_of(self.book, name)
        self._change_net(self.net.without_tie(name, unknowns))

    def add(self, many):
        """Adds so many unknowns to the net."""
        self._change_net(self.net.with_unknowns(many))

    def hold(self, what):
        """Holds from now on that the book stays decided, or that the net stays filled."""
        if what not in HOLDS:
            raise InvalidOperation("this cannot be held")
        if what == "decided":
            check_decided(self.book)
        elif "decided" not in self.held:
            raise InvalidOperation("the net is held filled only while the book is held decided")
        else:
            check_filled(self.book, self.net)
        self._come_to(self.book, self.net, tuple(sorted(set([*self.held, what]))))

    def release(self, what):
        """Ends holding it."""
        if what not in self.held:
            raise InvalidOperation("this is not held")
        if what == "decided" and "filled" in self.held:
            raise InvalidOperation("the book is held decided while the net is held filled")
        self._come_to(self.book, self.net, tuple([other for other in self.held if other != what]))

    def lists(self):
        """The tuple of the lists that striking leaves."""
        return lists(self.book, self.net)

    def is_decided(self):
        """Whether the book is decided."""
        return is_decided(self.book)

    def is_filled(self):
        """Whether the net has a filling."""
        return is_open(self.book, self.net, struck(self.book, self.net, whole_masks(self.book, self.net))[0])

    def paper(self):
        """A paper that the net has a filling, or that it has none."""
        if is_decided(self.book):
            return net_paper(self.book, self.net)
        return case_paper(self.book, self.net)

    def undo(self, *, many=1):
        """Takes back so many of the calls that change the desk. Returns how many can be undone then."""
        return self._go(many, self._at, -1)

    def redo(self, *, many=1):
        """Does so many of the calls again that were taken back. Returns how many can be undone then."""
        return self._go(many, len(self._states) - 1 - self._at, 1)

    def trial(self):
        """A block, for a with statement, at whose end the desk is as it was when the block began."""
        return Trial(self)

    def during(self, call):
        """What the call returns for this desk, which then is again as it was ahead of the call."""
        with self.trial():
            return call(self)

    def twin(self):
        """An independent copy."""
        other = Desk(self.book, self.net)
        other._states = self._states
        other._at = self._at
        return other

    def _change_book(self, book):
        """Comes to the state with this book, unless the net would not belong to it or something held would be lost."""
        check_belongs(book, self.net)
        if "decided" in self.held:
            check_decided(book)
        if "filled" in self.held:
            check_filled(book, self.net)
        self._come_to(book, self.net, self.held)

    def _change_net(self, net):
        """Comes to the state with this net, unless it would not belong to the book or would not stay filled."""
        check_belongs(self.book, net)
        if "filled" in self.held:
            check_filled(self.book, net)
        self._come_to(self.book, net, self.held)

    def _come_to(self, book, net, held):
        """Comes to a new state, behind which there is nothing to redo."""
        self._states = (*self._states[:self._at + 1], (book, net, held))
        self._at += 1

    def _go(self, many, limit, step):
        """Goes so many states on, or back. Returns how many calls can be undone then."""
        if not is_number(many):
            raise InvalidNumber(many)
        if many > limit:
            raise NothingToUndo(many)
        self._at += many * step
        return self._at


def check_filled(book, net):
    """An error if striking leaves some unknown of a net that belongs to the book no value."""
    unknown = emptied(book, net)
    if unknown is not None:
        raise Emptied(unknown)
