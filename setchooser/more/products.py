"""Products of books that are alike in form."""

from setchooser.base.books import MAX_VALUES, Book, check_book
from setchooser.base.names import is_below
from setchooser.choose.choosers import check_chooser
from setchooser.errors import InvalidBook, InvalidNumber, InvalidOperation
from setchooser.more.cores import check_alike, is_values


def check_books(one, other):
    """An error unless these are books."""
    check_book(one)
    check_book(other)


def check_product(one, other):
    """An error unless these are books that have a product."""
    check_alike(one, other)
    if one.size * other.size > MAX_VALUES:
        raise InvalidBook("the product would have too many values")


def is_pair(one, other, value):
    """Whether the value is a pair of a value of each of the books."""
    return (isinstance(value, tuple) and len(value) == 2
            and is_below(value[0], one.size) and is_below(value[1], other.size))


def value_for(other, first, second):
    """The value of a product with this second book that tells these two values."""
    return first * other.size + second


def values_for(other, first, second):
    """The values of a product with this second book that tell the values of two tuples, equally long."""
    return tuple([value_for(other, *pair) for pair in zip(first, second)])


def product(one, other):
    """The book with a value for each pair of a value of each, and a row for each pair of rows of one tie."""
    check_product(one, other)
    ties = {}
    for name in one.names:
        rows = [values_for(other, first, second) for first in one[name] for second in other[name]]
        ties[name] = (one.places(name), tuple(sorted(rows)))
    return Book(one.size * other.size, ties)


def pair_of(one, other, value):
    """The pair of values that a value of the product tells."""
    check_books(one, other)
    if not is_below(value, one.size * other.size):
        raise InvalidNumber(value)
    check_product(one, other)
    return divmod(value, other.size)


def value_of(one, other, pair):
    """The value of the product that tells this pair."""
    check_books(one, other)
    if not is_pair(one, other, pair):
        raise InvalidOperation("this is no pair of a value of each book")
    check_product(one, other)
    return value_for(other, pair[0], pair[1])


def paired(one, other, first, second):
    """The values of the product that tell the values of two tuples, equally long."""
    check_books(one, other)
    if not is_values(one.size, first) or not is_values(other.size, second):
        raise InvalidOperation("these are no tuples of values of each book")
    if len(first) != len(second):
        raise InvalidOperation("the tuples are not equally long")
    check_product(one, other)
    return values_for(other, first, second)


def parted(one, other, values):
    """The pair of the tuples of the values that these values of the product tell."""
    check_books(one, other)
    if not is_values(one.size * other.size, values):
        raise InvalidOperation("this is no tuple of values of the product")
    check_product(one, other)
    pairs = [divmod(value, other.size) for value in values]
    return tuple([first for first, second in pairs]), tuple([second for first, second in pairs])


def chooser_of_both(one, other, first, second):
    """The chooser of the product to which a chooser of each book leads, the sets taken apart."""
    check_books(one, other)
    check_chooser(one, first)
    check_chooser(other, second)
    both = product(one, other)
    table = {}
    for taken in both.sets:
        pairs = [divmod(value, other.size) for value in taken]
        led = first[tuple(sorted(set([pair[0] for pair in pairs])))]
        table[taken] = value_for(other, led, second[tuple(sorted(set([pair[1] for pair in pairs])))])
    return table
