"""Set nets, whose fillings are the good choosers of a book."""

from setchooser.base.books import check_book, is_row
from setchooser.base.fillings import check_both
from setchooser.base.masks import VALUES_IN
from setchooser.choose.choosers import check_chooser, chooser_with, shadow_net
from setchooser.errors import InvalidOperation
from setchooser.strike.strikes import struck, whole_masks


def set_net(book):
    """The net with an unknown for each set of the book, to which each tie is applied at each of its shadows."""
    check_book(book)
    return shadow_net(book)


def filling_of(book, chooser):
    """The values of the chooser in the order of the sets."""
    check_book(book)
    check_chooser(book, chooser)
    return tuple([chooser[taken] for taken in book.sets])


def chooser_of(book, values):
    """The chooser with these values in the order of the sets."""
    check_book(book)
    if not is_row(book.size, len(book.sets), values):
        raise InvalidOperation("this is no tuple of a value of the book for each of its sets")
    return chooser_with(book, values)


def lists_as_map(book, net):
    """For each unknown the number of its list among the sets of the book, or None if some list is left empty."""
    check_both(book, net)
    masks = struck(book, net, whole_masks(book, net))[0]
    if 0 in masks:
        return None
    return tuple([book.sets.index(VALUES_IN[mask]) for mask in masks])
