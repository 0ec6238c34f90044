"""Nets: unknowns, and ties applied to them."""

from setchooser.base.books import MAX_PLACES, check_book, check_name
from setchooser.base.names import is_ascending, is_below, is_integer, is_name, is_number
from setchooser.errors import InvalidNet, InvalidNumber, InvalidOperation

MAX_UNKNOWNS = 60
MAX_APPLIED = 30000


def is_size(value):
    """Whether the value is a possible number of unknowns."""
    return is_integer(value) and 0 <= value <= MAX_UNKNOWNS


def is_unknowns(size, value):
    """Whether the value is a tuple of one to three of so many unknowns."""
    return (isinstance(value, tuple) and 1 <= len(value) <= MAX_PLACES
            and all([is_below(part, size) for part in value]))


def is_applied(size, value):
    """Whether the value is a pair of a name and a tuple of one to three of so many unknowns."""
    return (isinstance(value, tuple) and len(value) == 2 and is_name(value[0])
            and is_unknowns(size, value[1]))


def is_applied_set(size, value):
    """Whether the value is a set of applied ties that are not too many."""
    return (isinstance(value, tuple) and len(value) <= MAX_APPLIED
            and all([is_applied(size, tie) for tie in value]) and is_ascending(value))


def first_from(ties, tie):
    """The index of the first one of the ascending ties that is not less than this one."""
    low = 0
    high = len(ties)
    while low < high:
        middle = (low + high) // 2
        if ties[middle] < tie:
            low = middle + 1
        else:
            high = middle
    return low


def known_net(size, ties):
    """A net of what is known to be right, as checking many applied ties anew takes long."""
    net = Net(0, ())
    net._size = size
    net._ties = ties
    return net


class Net:
    """The number of the unknowns, and the set of the applied ties. A net never changes."""

    def __init__(self, size, ties):
        if not is_size(size):
            raise InvalidNumber(size)
        if not is_applied_set(size, ties):
            raise InvalidNet("the ties are no set of at most 30000 pairs of a name and a tuple of unknowns")
        self._size = size
        self._ties = ties

    @property
    def size(self):
        """The number of the unknowns."""
        return self._size

    @property
    def ties(self):
        """The set of the applied ties."""
        return self._ties

    @property
    def names(self):
        """The set of the names in the applied ties."""
        return tuple(sorted(set([name for name, unknowns in self._ties])))

    def __contains__(self, value):
        if not is_applied(self._size, value):
            return False
        index = first_from(self._ties, value)
        return index < len(self._ties) and self._ties[index] == value

    def __len__(self):
        return len(self._ties)

    def __eq__(self, other):
        return isinstance(other, Net) and self._size == other._size and self._ties == other._ties

    def __str__(self):
        return f"net of {self._size} unknowns, {len(self._ties)} ties"

    def __iter__(self):
        return iter(self._ties)

    def with_tie(self, name, unknowns):
        """The net with one applied tie more."""
        check_name(name)
        if not is_unknowns(self._size, unknowns):
            raise InvalidOperation("this is no tuple of one to three unknowns of the net")
        tie = (name, unknowns)
        if tie in self:
            raise InvalidOperation("this tie is applied already")
        if len(self._ties) == MAX_APPLIED:
            raise InvalidNet("there would be too many applied ties")
        index = first_from(self._ties, tie)
        return known_net(self._size, (*self._ties[:index], tie, *self._ties[index:]))

    def without_tie(self, name, unknowns):
        """The net without this applied tie."""
        tie = (name, unknowns)
        if tie not in self:
            raise InvalidOperation("this is no applied tie")
        index = first_from(self._ties, tie)
        return known_net(self._size, self._ties[:index] + self._ties[index + 1:])

    def with_unknowns(self, many):
        """The net with so many unknowns more."""
        if not is_number(many):
            raise InvalidNumber(many)
        if self._size + many > MAX_UNKNOWNS:
            raise InvalidNet("there would be too many unknowns")
        return known_net(self._size + many, self._ties)

    def made_one(self, one, other):
        """The net in which the first unknown stands wherever the second one stood."""
        check_unknown(self, one)
        check_unknown(self, other)
        moved = [one if unknown == other else unknown for unknown in range(self._size)]
        return Net(self._size, moved_ties(self._ties, moved))

    def mapped(self, unknowns, size):
        """The net of so many unknowns to which a tuple, with one for each unknown, moves the applied ties."""
        if (not isinstance(unknowns, tuple) or len(unknowns) != self._size
                or not all([is_number(unknown) for unknown in unknowns])):
            raise InvalidOperation("this is no tuple of an integer of at least 0 for each unknown")
        if not is_size(size):
            raise InvalidNumber(size)
        if not all([unknown < size for unknown in unknowns]):
            raise InvalidOperation("some unknown would be moved to none")
        return Net(size, moved_ties(self._ties, unknowns))

    def __add__(self, other):
        if not isinstance(other, Net):
            raise InvalidOperation("a net is put beside a net only")
        size = self._size + other._size
        if size > MAX_UNKNOWNS or len(self._ties) + len(other._ties) > MAX_APPLIED:
            raise InvalidNet("there would be too many unknowns or applied ties")
        behind = moved_ties(other._ties, list(range(self._size, size)))
        return Net(size, tuple(sorted([*self._ties, *behind])))

    def __radd__(self, other):
        # Python asks here only if what stands ahead of the sign is neither a net nor a book.
        raise InvalidOperation("a net is put beside a net only")


def moved_ties(ties, unknowns):
    """The set of the applied ties, each of their unknowns moved to what stands at its index."""
    return tuple(sorted(set([(name, tuple([unknowns[part] for part in places])) for name, places in ties])))


def belongs(book, net):
    """Whether each name in the net is that of a tie of the book with as many places."""
    check_book(book)
    check_net(net)
    return does_belong(book, net)


def does_belong(book, net):
    """As belongs, for what is known to be a book and a net."""
    places = {name: book.places(name) for name in book.names}
    return all([places.get(name) == len(unknowns) for name, unknowns in net.ties])


def check_net(net):
    """An error unless this is a net."""
    if not isinstance(net, Net):
        raise InvalidNet("there should be a net")


def check_unknown(net, unknown):
    """An error unless this is an unknown of the net."""
    if not is_below(unknown, net.size):
        raise InvalidNumber(unknown)


def check_belongs(book, net):
    """An error unless the net belongs to the book."""
    if not does_belong(book, net):
        raise InvalidOperation("the net does not belong to the book")
