"""Values and checks that several tests use."""

import itertools

from setchooser.base.books import Book
from setchooser.base.nets import Net
from setchooser.errors import InvalidName, InvalidNumber, TooMany

HORN = Book(2, {"if": (2, ((0, 0), (0, 1), (1, 1))), "nand": (2, ((0, 0), (0, 1), (1, 0))),
                "no": (1, ((0,),)), "yes": (1, ((1,),))})
XOR = Book(2, {"xor": (2, ((0, 1), (1, 0)))})
RING = Book(3, {"beats": (2, ((0, 2), (1, 0), (2, 1)))})
STEP = Book(3, {"less": (2, ((0, 1), (0, 2), (1, 2))),
                "upto": (2, ((0, 0), (0, 1), (0, 2), (1, 1), (1, 2), (2, 2)))})
FORK = Net(3, (("if", (0, 1)), ("if", (0, 2)), ("nand", (1, 2))))
ODD = Net(3, (("xor", (0, 1)), ("xor", (0, 2)), ("xor", (1, 2))))


def nested(depth):
    """A tuple in a tuple and so on."""
    value = (0,)
    for _ in range(depth - 1):
        value = (value,)
    return value


def strange_values():
    """Values of every kind that the document names, made anew."""
    return [
        None, True, False, 0, 1, 2, 3, 4, 5, -1, 60, 61, 10 ** 59, 10 ** 60, -10 ** 60, 10 ** 99, -10 ** 99,
        "", "a", "if", "xor", "less", "Less", "filled", "none", "a b", "x" * 8, "x" * 9, "x" * 4000, "a\nb", "~",
        (), (0,), (1,), (0, 1), (1, 0), (0, 0), (True,), (False, True), (None,), ("a",), ("if", (0, 1)), ((0, 1),),
        ((),), ((), ()), ((0,), (0,)), ((0, 1), (0, 1), (0, 1)), (0, 0, 0), (0, 0, True), ("filled", (0, 0, 0)),
        ("none", ()), ("none", (0,)), ("filled",), ("filled", None, None), (10 ** 60,), (-1,), nested(10),
        [], [0], [0, 1], [[]], [(0, 1)], ["if", (0, 1)], [0, 0, 0],
        {}, {"a": 1}, {0: 0}, {(0,): 0}, {(0, 1): 1}, {(0, 0): 0}, {True: False}, {None: {}},
        {(0,): 0, (0, 1): 0, (1,): True}, {(0, True): 1}, {"if": (2, ((0, 0),))}, {nested(9): 0},
        HORN, XOR, FORK, ODD, (HORN, FORK), [HORN], InvalidName("a"), InvalidNumber(3), TooMany(200), {"a": FORK},
    ]


def same(one, other):
    """Whether the values are equal with the same kinds in them, so that True is not 1."""
    return repr(one) == repr(other) and one == other


def no_integers():
    """Of the strange values those that are no integers of at most sixty digits."""
    return [value for value in strange_values()
            if not isinstance(value, int) or isinstance(value, bool) or abs(value) >= 10 ** 60]


def no_books():
    return [value for value in strange_values() if not isinstance(value, Book)]


def no_nets():
    return [value for value in strange_values() if not isinstance(value, Net)]


def no_names():
    letters = "abcdefghijklmnopqrstuvwxyz"
    return [value for value in strange_values()
            if not (isinstance(value, str) and 1 <= len(value) <= 8 and set(value) <= set(letters))]


def no_names_of(book):
    return [value for value in strange_values() if not (isinstance(value, str) and value in book.names)]


def rows_where(size, places, test):
    """The set of the rows for which a test holds."""
    return tuple(row for row in itertools.product(range(size), repeat=places) if test(*row))


def net_of(size, ties):
    """A net of applied ties in any order, some perhaps told twice."""
    return Net(size, tuple(sorted(set(ties))))


def random_rows(random, size, places, chance):
    return rows_where(size, places, lambda *row: random.random() < chance)


def random_book(random, size, ties, chance=0.5, places=(1, 2, 3)):
    """A book with so many ties of some of these numbers of places."""
    table = {}
    for name in "abcdefgh"[:ties]:
        many = random.choice(places)
        table[name] = (many, random_rows(random, size, many, chance))
    return Book(size, table)


def random_net(random, book, size, ties):
    """A net that belongs to the book, with at most so many applied ties; an unknown can stand twice in one."""
    told = set()
    if size and len(book):
        for _ in range(ties):
            name = random.choice(book.names)
            told.add((name, tuple(random.randrange(size) for _ in range(book.places(name)))))
    return Net(size, tuple(sorted(told)))


def all_fillings(book, net):
    """All fillings by a check of all tuples of values."""
    return [values for values in itertools.product(range(book.size), repeat=net.size)
            if all(tuple(values[unknown] for unknown in unknowns) in book[name] for name, unknowns in net.ties)]


class Checks:
    """Checks for test cases."""

    def fails(self, error, call, *arguments, **kept):
        """The call raises just this error, which keeps just these attributes."""
        try:
            call(*arguments)
        except Exception as found:
            self.assertIs(type(found), error, (call, arguments, found))
            self.assertTrue(same(vars(found), kept), (call, arguments, vars(found), kept))
        else:
            self.fail(f"{call} of {arguments} raises no {error}")

    def refuses(self, call, good, bad):
        """For each parameter, bad has a pair of what makes wrong values and what makes their error.

        The first wrong argument decides, whatever stands behind it. The second item of a pair is an error
        class, or a pair of it and the name of the attribute that keeps the wrong value.
        """
        for index, pair in enumerate(bad):
            if pair is None:
                continue
            make, error = pair
            error, kept = error if isinstance(error, tuple) else (error, None)
            behind = [other[0]()[0] if other else good[index + 1 + at] for at, other in enumerate(bad[index + 1:])]
            for value in make():
                attributes = {kept: value} if kept else {}
                self.fails(error, call, *good[:index], value, *good[index + 1:], **attributes)
                self.fails(error, call, *good[:index], value, *behind, **attributes)
