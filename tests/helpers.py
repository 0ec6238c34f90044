"""Values and checks that several tests use."""

import itertools

from setchooser.base.books import Book
from setchooser.base.nets import Net
from setchooser.errors import InvalidName, InvalidNumber, TooMany

HORN = Book(2, {"if": (2, ((0, 0), (0, 1), (1, 1))), "nand": (2, ((0, 0), (0, 1), (1, 0))),
                "no": (1, ((0,),)), "yes": (1, ((1,),))})
XOR = Book(2, {"xor": (2, ((0, 1), (1, 0)))})
RING = Book(3, {"beats": (2, ((0, 2), (1, 0), (2, 1)))})
STEP = Book(3, {"less": (2, ((0, 1), (0, 2), (1, 2))),
                "upto": (2, ((0, 0), (0, 1), (0, 2), (1, 1), (1, 2), (2, 2)))})
FORK = Net(3, (("if", (0, 1)), ("if", (0, 2)), ("nand", (1, 2))))
ODD = Net(3, (("xor", (0, 1)), ("xor", (0, 2)), ("xor", (1, 2))))


def nested(depth):
    """A tuple in a tuple and so on."""
    value = (0,)
    for _ in range(depth - 1):
        value = (value,)
    return value


def strange_values():
    """Values of every kind that the document names, made anew."""
    return [
        None, True, False, 0, 1, 2, 3, 4, 5, -1, 60, 61, 10 ** 59, 10 ** 60, -10 ** 60, 10 ** 99, -10 ** 99,
        "", "a", "if", "xor", "less", "Less", "filled", "none", "a b", "x" * 8, "x" * 9, "x" * 4000, "a\nb", "~",
        (), (0,), (1,), (0, 1), (1, 0), (0, 0), (True,), (False, True), (None,), ("a",), ("if", (0, 1)), ((0, 1),),
        ((),), ((), ()), ((0,), (0,)), ((0, 1), (0, 1), (0, 1)), (0, 0, 0), (0, 0, True), ("filled", (0, 0, 0)),
        ("none", ()), ("none", (0,)), ("filled",), ("filled", None, None), (10 ** 60,), (-1,), nested(10),
        [], [0], [0, 1], [[]], [(0, 1)], ["if", (0, 1)], [0, 0, 0],
        {}, {"a": 1}, {0: 0}, {(0,): 0}, {(0, 1): 1}, {(0, 0): 0}, {True: False}, {None: {}},
        ((0, 0), (0, 1)), ((0, 0), (False, 1)), ((0, 1), (1, 0)), ("chooser", {(0,): 0, (0, 1): 0, (1,): 1}),
        ("empty", 0, {}), ("empty", 0, {(0, 0): 1, (0, 1): 4}), {0: (0,)}, {1: (1,)}, {1: (True,)}, {True: (1,)},
        {(0,): 0, (0, 1): 0, (1,): 1}, {(0, 0): (1, ((0, 1), (1, 0)))}, {(0,): 0, (0, 1): 0, (1,): True},
        {(0, True): 1}, {"if": (2, ((0, 0),))}, {nested(9): 0},
        HORN, XOR, FORK, ODD, (HORN, FORK), [HORN], InvalidName("a"), InvalidNumber(3), TooMany(200), {"a": FORK},
    ]


def same(one, other):
    """Whether the values are equal with the same kinds in them, so that True is not 1."""
    return repr(one) == repr(other) and one == other


def no_integers():
    """Of the strange values those that are no integers of at most sixty digits."""
    return [value for value in strange_values()
            if not isinstance(value, int) or isinstance(value, bool) or abs(value) >= 10 ** 60]


def no_books():
    return [value for value in strange_values() if not isinstance(value, Book)]


def no_nets():
    return [value for value in strange_values() if not isinstance(value, Net)]


def no_names():
    letters = "abcdefghijklmnopqrstuvwxyz"
    return [value for value in strange_values()
            if not (isinstance(value, str) and 1 <= len(value) <= 8 and set(value) <= set(letters))]


def no_names_of(book):
    return [value for value in strange_values() if not (isinstance(value, str) and value in book.names)]


def rows_where(size, places, test):
    """The set of the rows for which a test holds."""
    return tuple(row for row in itertools.product(range(size), repeat=places) if test(*row))


def net_of(size, ties):
    """A net of applied ties in any order, some perhaps told twice."""
    return Net(size, tuple(sorted(set(ties))))


def random_rows(random, size, places, chance):
    return rows_where(size, places, lambda *row: random.random() < chance)


def random_book(random, size, ties, chance=0.5, places=(1, 2, 3)):
    """A book with so many ties of some of these numbers of places."""
    table = {}
    for name in "abcdefgh"[:ties]:
        many = random.choice(places)
        table[name] = (many, random_rows(random, size, many, chance))
    return Book(size, table)


def random_net(random, book, size, ties):
    """A net that belongs to the book, with at most so many applied ties; an unknown can stand twice in one."""
    told = set()
    if size and len(book):
        for _ in range(ties):
            name = random.choice(book.names)
            told.add((name, tuple(random.randrange(size) for _ in range(book.places(name)))))
    return Net(size, tuple(sorted(told)))


def all_fillings(book, net):
    """All fillings by a check of all tuples of values."""
    return [values for values in itertools.product(range(book.size), repeat=net.size)
            if all(tuple(values[unknown] for unknown in unknowns) in book[name] for name, unknowns in net.ties)]


def rounds(book, net, given=None):
    """The lists and the ranks, by rounds as point 0.10 tells them, that begin with the given lists of a dict."""
    left = [set((given or {}).get(unknown, range(book.size))) for unknown in range(net.size)]
    ranks = {}
    for rank in itertools.count(1):
        found = set()
        for name, unknowns in net.ties:
            for place, unknown in enumerate(unknowns):
                for value in left[unknown]:
                    if not any(row[place] == value and all(
                            row[other] in left[unknowns[other]] for other in range(len(row)) if other != place)
                            for row in book[name]):
                        found.add((unknown, value))
        if not found:
            return tuple(tuple(sorted(taken)) for taken in left), ranks
        for unknown, value in found:
            left[unknown].discard(value)
            ranks[unknown, value] = rank


def behind(book, net, items, values):
    """The number of the items that a case tree takes up, None if there is none: told by the words of 4.1."""
    if not items:
        return None
    first = items[0]
    if type(first) is int:
        if not 0 <= first < net.size or first in values:
            return None
        taken = 1
        for value in range(book.size):
            more = behind(book, net, items[taken:], {**values, first: value})
            if more is None:
                return None
            taken += more
        return taken
    if not any(same(first, tie) for tie in net.ties):
        return None
    name, unknowns = first
    for row in book[name]:
        if all(values.get(unknown, value) == value for unknown, value in zip(unknowns, row)):
            return None
    return 1


def is_tree(book, net, value):
    return isinstance(value, tuple) and behind(book, net, value, {}) == len(value)


def told_by_rows(rows):
    """The shadow that some rows tell."""
    return tuple(tuple(sorted(set(column))) for column in zip(*rows))


def all_shadows(rows):
    """The shadows of all choices of rows."""
    return {told_by_rows(some) for many in range(1, len(rows) + 1) for some in itertools.combinations(rows, many)}


def all_choosers(book):
    for values in itertools.product(range(book.size), repeat=len(book.sets)):
        yield dict(zip(book.sets, values))


def all_good(book):
    """The good choosers by a check of all choosers and all choices of rows."""
    told = [(all_shadows(book[name]), set(book[name])) for name in book]
    return [table for table in all_choosers(book)
            if all(tuple(table[taken] for taken in shadow) in rows for found, rows in told for shadow in found)]


def least(book):
    """The chooser that leads each set to its least value."""
    return {taken: taken[0] for taken in book.sets}


def all_rows(size, places):
    return rows_where(size, places, lambda *row: True)


def no_choosers(book):
    """Values that are no choosers of the book, some of them nearly."""
    near = []
    for taken in book.sets:
        for value in (book.size, -1, True, None, "0", (0,), 10 ** 99):
            near.append({**least(book), taken: value})
        near.append({other: 0 for other in book.sets if other != taken})
        near.append({other if other != taken else (): 0 for other in book.sets})
        near.append({other if other != taken else (True,) + taken[1:]: 0 for other in book.sets})
        near.append({other if other != taken else taken + (book.size,): 0 for other in book.sets})
        near.append({other if other != taken else (book.size,): 0 for other in book.sets})
        near.append({other if other != taken else "a": 0 for other in book.sets})
    near += [{**least(book), (): 0}, {**least(book), None: 0}, tuple(least(book).items()), tuple(book.sets)]
    return [value for value in near + strange_values() if not (isinstance(value, dict) and same(
        sorted(value, key=repr), sorted(book.sets, key=repr)) and all(
            type(led) is int and 0 <= led < book.size for led in value.values()))]


class Checks:
    """Checks for test cases."""

    def fails(self, error, call, *arguments, **kept):
        """The call raises just this error, which keeps just these attributes."""
        try:
            call(*arguments)
        except Exception as found:
            self.assertIs(type(found), error, (call, arguments, found))
            self.assertTrue(same(vars(found), kept), (call, arguments, vars(found), kept))
        else:
            self.fail(f"{call} of {arguments} raises no {error}")

    def refuses(self, call, good, bad):
        """For each parameter, bad has a pair of what makes wrong values and what makes their error.

        The first wrong argument decides, whatever stands behind it. The second item of a pair is an error
        class, or a pair of it and the name of the attribute that keeps the wrong value.
        """
        for index, pair in enumerate(bad):
            if pair is None:
                continue
            make, error = pair
            error, kept = error if isinstance(error, tuple) else (error, None)
            behind = [other[0]()[0] if other else good[index + 1 + at] for at, other in enumerate(bad[index + 1:])]
            for value in make():
                attributes = {kept: value} if kept else {}
                self.fails(error, call, *good[:index], value, *good[index + 1:], **attributes)
                self.fails(error, call, *good[:index], value, *behind, **attributes)
