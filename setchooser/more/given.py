"""Nets of which some unknowns are given lists of values, and the choosers for them."""

from setchooser.base.books import check_book, check_set_of_values, is_set_of_values
from setchooser.base.fillings import does_fill
from setchooser.base.masks import VALUES_IN, full_mask, mask_of
from setchooser.base.names import is_below
from setchooser.base.nets import check_belongs, check_net
from setchooser.base.walks import Walk
from setchooser.base.webs import web_of
from setchooser.choose.choosers import first_into, fixing_masks, is_good, led_by
from setchooser.errors import Emptied, InvalidOperation, NoChooser
from setchooser.strike.strikes import ascending, first_empty, struck


def faithful(book):
    """The first good chooser that leads each set to a value of it, or None."""
    check_book(book)
    return first_into(book, [mask_of(taken) for taken in book.sets])


def is_faithful(book, value):
    """Whether the value is a good chooser that leads each set to a value of it."""
    return is_good(book, value) and all([led in taken for taken, led in value.items()])


def fixing(book, values):
    """The first good chooser that leads the sets of each of these values alone to them, or None."""
    check_book(book)
    check_set_of_values(book, values)
    return first_into(book, fixing_masks(book, values))


def is_fixing(book, values, value):
    """Whether the value is a good chooser that leads the sets of each of these values alone to them."""
    check_book(book)
    check_set_of_values(book, values)
    return is_good(book, value) and all([value[(part,)] == part for part in values])


def own_lists(book):
    """The given lists of the set net that give each unknown its own set."""
    check_book(book)
    return {number: taken for number, taken in enumerate(book.sets)}


def is_given(book, net, value):
    """Whether the value is a dict from unknowns of the net to sets of values of the book."""
    return (isinstance(value, dict)
            and all([is_below(unknown, net.size) and is_set_of_values(book, taken)
                     for unknown, taken in value.items()]))


def check_given(book, net, given):
    """An error unless these are a book, a net, and given lists of the net, which belongs to the book."""
    check_book(book)
    check_net(net)
    if not is_given(book, net, given):
        raise InvalidOperation("these are no given lists of the net")
    check_belongs(book, net)


def given_masks(book, net, given):
    """The masks of the given lists, and of all values for the other unknowns."""
    return [mask_of(given[unknown]) if unknown in given else full_mask(book.size) for unknown in range(net.size)]


def struck_from(book, net, given):
    """The masks and the ranks of striking that begins with the given lists."""
    check_given(book, net, given)
    return struck(book, net, given_masks(book, net, given))


def lists_from(book, net, given):
    """The tuple of the lists that striking leaves of the given ones."""
    return tuple([VALUES_IN[mask] for mask in struck_from(book, net, given)[0]])


def strikes_from(book, net, given):
    """The dict from the pairs of an unknown and a value that are struck to the numbers of their rounds."""
    return ascending(struck_from(book, net, given)[1])


def fits(book, net, given, value):
    """Whether the value is a filling with a value of its given list for each unknown that has one."""
    check_given(book, net, given)
    return does_fill(book, net, value) and all([value[unknown] in taken for unknown, taken in given.items()])


def first_fitting(book, net, given):
    """The first filling in Python's order that fits the given lists, or None."""
    check_given(book, net, given)
    return Walk(web_of(book, net), given_masks(book, net, given)).following()


def fill_from(book, net, given):
    """The values to which the first good faithful chooser leads the lists that striking leaves."""
    masks = struck_from(book, net, given)[0]
    table = faithful(book)
    if table is None:
        raise NoChooser(book.names)
    if 0 in masks:
        raise Emptied(first_empty(masks))
    return led_by(table, masks)
