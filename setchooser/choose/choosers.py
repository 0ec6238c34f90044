"""Shadows of ties, and the choosers that keep them."""

from setchooser.base.books import check_book, check_name_of, is_set_of_values
from setchooser.base.masks import VALUES_IN, full_mask, mask_of, rows_mask
from setchooser.base.names import is_below, tuples_of
from setchooser.base.nets import Net
from setchooser.base.sieves import Sieve
from setchooser.base.walks import Walk
from setchooser.base.webs import web_of
from setchooser.errors import InvalidChooser, TooMany

MAX_CHOOSERS = 200


def is_chooser(book, value):
    """Whether the value is a dict from all sets of the book to values of it."""
    return (isinstance(value, dict) and len(value) == len(book.sets)
            and all([is_set_of_values(book, taken) and taken != () and is_below(led, book.size)
                     for taken, led in value.items()]))


def check_chooser(book, value):
    """An error unless this is a chooser of the book."""
    if not is_chooser(book, value):
        raise InvalidChooser("this is no dict from all sets of the book to values of it")


def is_shadow(book, name, value):
    """Whether the value is a shadow of the tie."""
    check_book(book)
    check_name_of(book, name)
    if not isinstance(value, tuple) or len(value) != book.places(name):
        return False
    if not all([is_set_of_values(book, part) and part != () for part in value]):
        return False
    masks = tuple([mask_of(part) for part in value])
    return is_left(Sieve(), rows_mask(book[name]), masks)


def shadows(book, name):
    """The ascending tuple of all shadows of the tie."""
    check_book(book)
    check_name_of(book, name)
    return shadows_of(book, name, Sieve())


def shadows_of(book, name, sieve):
    """As shadows, for what is known to be right."""
    rows = rows_mask(book[name])
    masks = {taken: mask_of(taken) for taken in book.sets}
    return tuple([shadow for shadow in tuples_of(book.sets, book.places(name))
                  if is_left(sieve, rows, tuple([masks[taken] for taken in shadow]))])


def is_left(sieve, rows, masks):
    """Whether each value of the masks stands in a row with values of the masks."""
    return sieve.left(rows, masks) == masks


def does_keep(book, chooser, name):
    """Whether the chooser leads each shadow of the tie to a row of it."""
    check_book(book)
    check_chooser(book, chooser)
    check_name_of(book, name)
    return keeps(book, chooser, name, Sieve())


def keeps(book, table, name, sieve):
    """As does_keep, for what is known to be right."""
    rows = {row: True for row in book[name]}
    return all([tuple([table[taken] for taken in shadow]) in rows for shadow in shadows_of(book, name, sieve)])


def is_good(book, value):
    """Whether the value is a good chooser of the book."""
    check_book(book)
    sieve = Sieve()
    return is_chooser(book, value) and all([keeps(book, value, name, sieve) for name in book.names])


def shadow_net(book):
    """The net with an unknown for each set, to which each tie is applied at each of its shadows."""
    numbers = {taken: number for number, taken in enumerate(book.sets)}
    sieve = Sieve()
    ties = [(name, tuple([numbers[taken] for taken in shadow]))
            for name in book.names for shadow in shadows_of(book, name, sieve)]
    return Net(len(book.sets), tuple(sorted(ties)))


def free_masks(book):
    """For each set, in their order, the mask of all values, to which a chooser may lead it."""
    return [full_mask(book.size) for _ in book.sets]


def fixing_masks(book, values):
    """As free_masks, but for choosers that fix these values: the sets of them alone have just them."""
    return [mask_of(taken) if len(taken) == 1 and taken[0] in values else full_mask(book.size)
            for taken in book.sets]


def walk_of(book, masks):
    """The walk through the good choosers, fillings of the net of the shadows, that lead into the masks."""
    return Walk(web_of(book, shadow_net(book)), masks)


def chooser_with(book, values):
    """The chooser that leads the sets, in their order, to these values."""
    return {taken: value for taken, value in zip(book.sets, values)}


def led_by(table, masks):
    """The values to which a chooser leads the sets of these masks, none of which is empty."""
    return tuple([table[VALUES_IN[mask]] for mask in masks])


def first_into(book, masks):
    """The first good chooser that leads each set to a value of its mask, or None."""
    values = walk_of(book, masks).following()
    return None if values is None else chooser_with(book, values)


def chooser(book):
    """The first good chooser, or None."""
    check_book(book)
    return first_into(book, free_masks(book))


def choosers(book):
    """The ascending tuple of the good choosers."""
    check_book(book)
    walk = walk_of(book, free_masks(book))
    found = []
    values = walk.following()
    while values is not None:
        if len(found) == MAX_CHOOSERS:
            raise TooMany(MAX_CHOOSERS)
        found.append(chooser_with(book, values))
        values = walk.following()
    return tuple(found)
