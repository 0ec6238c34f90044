"""Books: values, and ties of a few places between them."""

from setchooser.base.masks import VALUES_IN
from setchooser.base.names import is_ascending, is_below, is_integer, is_name, is_set
from setchooser.errors import InvalidBook, InvalidName, InvalidNumber, InvalidOperation, UnknownName

MAX_VALUES = 4
MAX_TIES = 8
MAX_PLACES = 3


def is_row(size, places, value):
    """Whether the value is a tuple of one of so many values for each place."""
    return (isinstance(value, tuple) and len(value) == places
            and all([is_below(part, size) for part in value]))


def is_rows(size, places, value):
    """Whether the value is a set of rows of so many places."""
    return (isinstance(value, tuple) and all([is_row(size, places, row) for row in value])
            and is_ascending(value))


def is_tie(size, value):
    """Whether the value is a pair of a number of places and a set of such rows."""
    return (isinstance(value, tuple) and len(value) == 2 and is_integer(value[0])
            and 1 <= value[0] <= MAX_PLACES and is_rows(size, value[0], value[1]))


def is_ties(size, value):
    """Whether the value is a dict of the ties of a book."""
    return (isinstance(value, dict) and len(value) <= MAX_TIES
            and all([is_name(name) and is_tie(size, tie) for name, tie in value.items()]))


class Book:
    """The number of the values, and up to eight ties under names. A book never changes."""

    def __init__(self, size, ties):
        if not is_integer(size) or not 1 <= size <= MAX_VALUES:
            raise InvalidNumber(size)
        if not is_ties(size, ties):
            raise InvalidBook("the ties are no dict from names to pairs of a number of places and a set of rows")
        self._size = size
        self._names = tuple(sorted(ties))
        self._ties = {name: ties[name] for name in self._names}
        self._sets = tuple(sorted(VALUES_IN[1:1 << size]))

    @property
    def size(self):
        """The number of the values."""
        return self._size

    @property
    def names(self):
        """The set of the names of the ties."""
        return self._names

    @property
    def sets(self):
        """The sets of values but the empty one, ascending."""
        return self._sets

    def __getitem__(self, name):
        if name not in self:
            raise UnknownName(name)
        return self._ties[name][1]

    def __contains__(self, value):
        return isinstance(value, str) and value in self._ties

    def __len__(self):
        return len(self._ties)

    def __eq__(self, other):
        return isinstance(other, Book) and self._size == other._size and self._ties == other._ties

    def __str__(self):
        return f"book of {self._size} values, {len(self._ties)} ties"

    def __iter__(self):
        return iter(self._names)

    def places(self, name):
        """The number of the places of a tie."""
        if name not in self:
            raise UnknownName(name)
        return self._ties[name][0]

    def with_tie(self, name, places, rows):
        """The book with this tie more, or in the place of that with this name."""
        check_name(name)
        ties = dict(self._ties)
        ties[name] = (places, rows)
        return Book(self._size, ties)

    def without_tie(self, name):
        """The book without the tie with this name."""
        if name not in self:
            raise UnknownName(name)
        return Book(self._size, {other: tie for other, tie in self._ties.items() if other != name})

    def only(self, names):
        """The book with the ties of a set of names alone."""
        if not is_names_of(self, names):
            raise InvalidOperation("there is no such set of names of ties")
        return Book(self._size, {name: self._ties[name] for name in names})

    def renamed(self, names):
        """The book with other names, by a dict from some of the names of its ties."""
        if not isinstance(names, dict) or not all([name in self and is_name(names[name]) for name in names]):
            raise InvalidOperation("there is no such dict from names of ties to names")
        ties = {names.get(name, name): tie for name, tie in self._ties.items()}
        if len(ties) < len(self._ties):
            raise InvalidOperation("two ties would have one name")
        return Book(self._size, ties)

    def turned(self, values):
        """The book in which each value is replaced by the one that the tuple has at its index."""
        if not is_row(self._size, self._size, values) or len(set(values)) < self._size:
            raise InvalidOperation("this is no tuple of all values")
        return Book(self._size, {name: turned_tie(tie, values) for name, tie in self._ties.items()})

    def __add__(self, other):
        if not isinstance(other, Book) or other._size != self._size:
            raise InvalidOperation("a book is put together with one of its size only")
        ties = dict(self._ties)
        for name, tie in other._ties.items():
            if name in ties and ties[name] != tie:
                raise InvalidBook("one name stands for unlike ties")
            ties[name] = tie
        return Book(self._size, ties)

    def __radd__(self, other):
        # Python asks here only if what stands ahead of the sign is neither a book nor a net.
        raise InvalidOperation("a book is put together with a book only")


def is_names_of(book, value):
    """Whether the value is a set of names of ties of the book."""
    return isinstance(value, tuple) and all([name in book for name in value]) and is_ascending(value)


def is_set_of_values(book, value):
    """Whether the value is a set of values of the book, perhaps the empty one."""
    return is_set(value) and all([part < book.size for part in value])


def turned_tie(tie, values):
    """The tie in which each value is replaced by the one that the tuple has at its index."""
    places, rows = tie
    return places, tuple(sorted([tuple([values[value] for value in row]) for row in rows]))


def check_book(book):
    """An error unless this is a book."""
    if not isinstance(book, Book):
        raise InvalidBook("there should be a book")


def check_set_of_values(book, value):
    """An error unless this is a set of values of the book, perhaps the empty one."""
    if not is_set_of_values(book, value):
        raise InvalidOperation("this is no set of values of the book")


def check_name(name):
    """An error unless this is any name."""
    if not is_name(name):
        raise InvalidName("a name has one to eight small letters")


def check_name_of(book, name):
    """An error unless this is the name of a tie of the book."""
    if name not in book:
        raise UnknownName(name)
