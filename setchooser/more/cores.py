"""Value maps between books, folds, and the cores to which these lead."""

from setchooser.base.books import Book, check_book, is_row
from setchooser.base.names import is_below, tuples_of
from setchooser.errors import InvalidOperation


def are_alike(one, other):
    """Whether the books have the same names of ties, each with as many places."""
    return one.names == other.names and all([one.places(name) == other.places(name) for name in one.names])


def check_alike(one, other):
    """An error unless these are books that are alike in form."""
    check_book(one)
    check_book(other)
    if not are_alike(one, other):
        raise InvalidOperation("the books are not alike in form")


def does_lead(one, other, values):
    """Whether a value of the second book for each one of the first leads rows of ties to rows."""
    for name in one.names:
        rows = {row: True for row in other[name]}
        for row in one[name]:
            if tuple([values[value] for value in row]) not in rows:
                return False
    return True


def is_value_map(one, other, value):
    """Whether the value is a value map from the first book to the second one."""
    check_alike(one, other)
    return is_row(other.size, one.size, value) and does_lead(one, other, value)


def value_maps(one, other):
    """All value maps from the first book to the second one, ascending."""
    check_alike(one, other)
    told = tuples_of(list(range(other.size)), one.size)
    return tuple([values for values in told if does_lead(one, other, values)])


def folds(book):
    """All value maps from the book to itself, ascending."""
    return value_maps(book, book)


def led_to(values):
    """The set of the values to which a value map leads."""
    return tuple(sorted(set(values)))


def is_core(book):
    """Whether each fold of the book leads to all values."""
    return all([len(led_to(fold)) == book.size for fold in folds(book)])


def core_values(book):
    """Of the smallest sets of values into which some fold leads all values, the first one."""
    ranked = [(len(led_to(fold)), led_to(fold)) for fold in folds(book)]
    return min(ranked)[1]


def core(book):
    """The book of the values of core_values, numbered in their order, with the rows that have only such values."""
    kept = core_values(book)
    numbers = {value: number for number, value in enumerate(kept)}
    ties = {}
    for name in book.names:
        rows = [row for row in book[name] if all([value in numbers for value in row])]
        ties[name] = (book.places(name), tuple([tuple([numbers[value] for value in row]) for row in rows]))
    return Book(len(kept), ties)


def core_fold(book):
    """The first fold that leads all values to those of core_values and leaves each one of these."""
    kept = core_values(book)
    leaving = [fold for fold in folds(book) if led_to(fold) == kept and all([fold[value] == value for value in kept])]
    return leaving[0]


def is_values(size, value):
    """Whether the value is a tuple of some of so many values."""
    return isinstance(value, tuple) and all([is_below(part, size) for part in value])


def to_core(book, values):
    """The numbers in the core of the values to which core_fold leads these values of the book."""
    check_book(book)
    if not is_values(book.size, values):
        raise InvalidOperation("this is no tuple of values of the book")
    kept = core_values(book)
    fold = core_fold(book)
    return tuple([kept.index(fold[value]) for value in values])


def from_core(book, values):
    """The values of the book that are meant by these values of its core."""
    kept = core_values(book)
    if not is_values(len(kept), values):
        raise InvalidOperation("this is no tuple of values of the core")
    return tuple([kept[value] for value in values])
