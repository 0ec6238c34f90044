"""Choosers that come of orders and of joins."""

from setchooser.base.books import check_book, is_row
from setchooser.base.names import tuples_of
from setchooser.base.webs import does_settle, web_of
from setchooser.choose.choosers import check_chooser, shadow_net
from setchooser.errors import InvalidOperation


def is_order(book, value):
    """Whether the value is a tuple of all values of the book, each once."""
    return is_row(book.size, book.size, value) and len(set(value)) == book.size


def is_table(book, value):
    """Whether the value tells a value for any two values of the book."""
    return (isinstance(value, tuple) and len(value) == book.size
            and all([is_row(book.size, book.size, row) for row in value]))


def is_grouped(table):
    """Whether three values put together by the table come to the same in each grouping."""
    values = list(range(len(table)))
    for one in values:
        for two in values:
            for three in values:
                if table[table[one][two]][three] != table[one][table[two][three]]:
                    return False
    return True


def is_join(book, value):
    """Whether the value is a join."""
    check_book(book)
    values = list(range(book.size))
    return (is_table(book, value) and all([value[one][one] == one for one in values])
            and all([value[one][other] == value[other][one] for one in values for other in values])
            and is_grouped(value))


def first_of(order, taken):
    """Of some values the one that stands first in the order."""
    return [value for value in order if value in taken][0]


def put_together(join, taken):
    """What some values come to, put together by the join."""
    total = taken[0]
    for value in taken[1:]:
        total = join[total][value]
    return total


def order_chooser(book, order):
    """The chooser that leads each set to the one of its values that stands first in the order."""
    check_book(book)
    if not is_order(book, order):
        raise InvalidOperation("this is no tuple of all values of the book, each once")
    return {taken: first_of(order, taken) for taken in book.sets}


def join_chooser(book, join):
    """The chooser that leads each set to what all its values come to, put together by the join."""
    if not is_join(book, join):
        raise InvalidOperation("this is no join of the values of the book")
    return {taken: put_together(join, taken) for taken in book.sets}


def orders_of(book):
    """All orders of the values of the book, ascending."""
    return [order for order in tuples_of(list(range(book.size)), book.size) if is_order(book, order)]


def table_with(size, pairs, values):
    """The table that tells these values for these pairs, in both orders, and for a value twice this value."""
    told = {}
    for pair, value in zip(pairs, values):
        told[pair] = value
        told[(pair[1], pair[0])] = value
    return tuple([tuple([told.get((one, other), one) for other in range(size)]) for one in range(size)])


def joins_of(book):
    """All joins of the values of the book, ascending."""
    values = list(range(book.size))
    pairs = [(one, other) for one in values for other in values if one < other]
    tables = [table_with(book.size, pairs, told) for told in tuples_of(values, len(pairs))]
    # The values for the pairs ascend row by row, so the tables do.
    return [table for table in tables if is_grouped(table)]


def good_orders(book):
    """The orders whose choosers are good for the book, ascending."""
    check_book(book)
    web = web_of(book, shadow_net(book))
    return tuple([order for order in orders_of(book)
                  if does_settle(web, [first_of(order, taken) for taken in book.sets])])


def good_joins(book):
    """The joins whose choosers are good for the book, ascending."""
    check_book(book)
    web = web_of(book, shadow_net(book))
    return tuple([join for join in joins_of(book)
                  if does_settle(web, [put_together(join, taken) for taken in book.sets])])


def order_of(book, chooser):
    """The order whose chooser this is, or None."""
    check_book(book)
    check_chooser(book, chooser)
    for order in orders_of(book):
        if all([first_of(order, taken) == chooser[taken] for taken in book.sets]):
            return order
    return None


def join_of(book, chooser):
    """The join whose chooser this is, or None."""
    check_book(book)
    check_chooser(book, chooser)
    # A join tells for two values what its chooser does, so there is one table to try.
    join = tuple([tuple([chooser[tuple(sorted(set([one, other])))] for other in range(book.size)])
                  for one in range(book.size)])
    if is_join(book, join) and all([put_together(join, taken) == chooser[taken] for taken in book.sets]):
        return join
    return None
