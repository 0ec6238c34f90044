"""Fillings of nets, and papers that there are none."""

from setchooser.base.books import check_book
from setchooser.base.names import is_below
from setchooser.base.nets import check_belongs, check_net
from setchooser.base.trees import case_tree, read_tree
from setchooser.base.walks import Walk
from setchooser.base.webs import first_settled, web_of
from setchooser.errors import InvalidOperation


def check_both(book, net):
    """An error unless these are a book and a net that belongs to it."""
    check_book(book)
    check_net(net)
    check_belongs(book, net)


def does_fill(book, net, value):
    """As is_filling, for what is known to be a book and a net that belongs to it."""
    if not isinstance(value, tuple) or len(value) != net.size:
        return False
    if not all([is_below(part, book.size) for part in value]):
        return False
    rows = {name: {row: True for row in book[name]} for name in book.names}
    return all([tuple([value[unknown] for unknown in unknowns]) in rows[name] for name, unknowns in net.ties])


def is_filling(book, net, value):
    """Whether the value is a filling of the net."""
    check_both(book, net)
    return does_fill(book, net, value)


def first_filling(book, net):
    """The first filling in Python's order, or None."""
    check_both(book, net)
    web = web_of(book, net)
    return Walk(web, web.whole()).following()


def fillings(book, net):
    """Yields all fillings, ascending."""
    check_both(book, net)
    web = web_of(book, net)
    walk = Walk(web, web.whole())
    filling = walk.following()
    while filling is not None:
        yield filling
        filling = walk.following()


def case_paper(book, net):
    """A paper: a filling of the net, or a case tree that there is none."""
    check_both(book, net)
    web = web_of(book, net)
    filling = first_settled(web, web.whole())
    if filling is not None:
        return "filled", filling
    return "none", case_tree(book, web)


def is_case_paper(book, net, value):
    """Whether the value is a filling of the net, or a case tree, behind the word for it."""
    check_both(book, net)
    if not isinstance(value, tuple) or len(value) != 2:
        return False
    if value[0] == "filled":
        return does_fill(book, net, value[1])
    return value[0] == "none" and read_tree(book, net, value[1]) is not None


def told_by(book, net, tree):
    """The dict of the asked unknowns and the list of the clashing ties of a case tree."""
    check_both(book, net)
    told = read_tree(book, net, tree)
    if told is None:
        raise InvalidOperation("this is no case tree of the book and the net")
    return told


def asked(book, net, tree):
    """The set of the unknowns that a case tree asks."""
    return tuple(sorted(told_by(book, net, tree)[0]))


def clashes(book, net, tree):
    """The applied ties of a case tree, in their order."""
    return tuple(told_by(book, net, tree)[1])
