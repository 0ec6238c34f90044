"""Nets of decided books, of which striking alone tells whether they can be filled."""

from setchooser.base.books import check_book
from setchooser.base.fillings import check_both, does_fill
from setchooser.base.names import is_below
from setchooser.base.nets import check_belongs, check_net, check_unknown
from setchooser.choose.choosers import chooser, led_by
from setchooser.choose.decided import check_decided
from setchooser.choose.tellers import Teller
from setchooser.errors import Emptied, NoChooser
from setchooser.strike.strikes import ascending, first_empty, is_strikes, struck, whole_masks


def is_filled(book, net):
    """Whether the net has a filling."""
    check_both(book, net)
    check_decided(book)
    return 0 not in struck(book, net, whole_masks(book, net))[0]


def struck_for(book, net):
    """The first good chooser of the book, and the masks and ranks of striking."""
    check_both(book, net)
    table = chooser(book)
    if table is None:
        raise NoChooser(book.names)
    masks, ranks = struck(book, net, whole_masks(book, net))
    return table, masks, ranks


def fill(book, net):
    """The values to which the first good chooser leads the lists that striking leaves."""
    table, masks, _ = struck_for(book, net)
    if 0 in masks:
        raise Emptied(first_empty(masks))
    return led_by(table, masks)


def net_paper(book, net):
    """A paper: a filling of the net, or strikes of all values of an unknown."""
    table, masks, ranks = struck_for(book, net)
    if 0 in masks:
        return "empty", first_empty(masks), ascending(ranks)
    return "filled", led_by(table, masks)


def is_net_paper(book, net, value):
    """Whether the value is a filling of the net, or strikes of all values of an unknown, behind the word for it."""
    check_both(book, net)
    if not isinstance(value, tuple) or len(value) not in (2, 3):
        return False
    if len(value) == 2:
        return value[0] == "filled" and does_fill(book, net, value[1])
    word, unknown, ranks = value
    return (word == "empty" and is_below(unknown, net.size) and is_strikes(book, net, ranks)
            and all([(unknown, struck_value) in ranks for struck_value in range(book.size)]))


def common(book, net, unknown):
    """The set of the values that the unknown has in some filling."""
    check_book(book)
    check_net(net)
    check_unknown(net, unknown)
    check_belongs(book, net)
    check_decided(book)
    return tuple([value for (value,) in Teller(book, net).told_at((unknown,))])
