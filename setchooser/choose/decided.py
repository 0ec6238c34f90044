"""Decided books, and what shows that a book is decided or is not."""

from setchooser.base.books import check_book
from setchooser.base.nets import Net, does_belong
from setchooser.base.trees import case_tree, read_tree
from setchooser.base.walks import Walk
from setchooser.base.webs import first_settled, web_of
from setchooser.choose.choosers import chooser_with, is_good
from setchooser.choose.setnets import set_net
from setchooser.errors import NoChooser
from setchooser.strike.strikes import struck, whole_masks


def is_decided(book):
    """Whether the book has a good chooser."""
    web = web_of(book, set_net(book))
    return first_settled(web, web.whole()) is not None


def check_decided(book):
    """An error unless what is known to be a book is decided."""
    if not is_decided(book):
        raise NoChooser(book.names)


def book_paper(book):
    """A paper: a good chooser, or a case tree that there is none, behind the word for it."""
    web = web_of(book, set_net(book))
    values = Walk(web, web.whole()).following()
    if values is None:
        return "none", case_tree(book, web)
    return "chooser", chooser_with(book, values)


def is_book_paper(book, value):
    """Whether the value is a good chooser, or a case tree that there is none, behind the word for it."""
    check_book(book)
    if not isinstance(value, tuple) or len(value) != 2:
        return False
    if value[0] == "chooser":
        return is_good(book, value[1])
    return value[0] == "none" and read_tree(book, set_net(book), value[1]) is not None


def spoiler(book):
    """None if the book is decided, otherwise its set net."""
    return None if is_decided(book) else set_net(book)


def is_open(book, net, masks):
    """Whether a net that belongs to the book has a filling, if striking leaves these masks."""
    # If the book is decided, no search is needed to know that there is a filling.
    return 0 not in masks and (is_decided(book) or first_settled(web_of(book, net), masks) is not None)


def is_spoiler(book, value):
    """Whether the value is a net of the book without a filling of which striking leaves each unknown a value."""
    check_book(book)
    if not isinstance(value, Net) or not does_belong(book, value):
        return False
    masks = struck(book, value, whole_masks(book, value))[0]
    return 0 not in masks and not is_open(book, value, masks)
