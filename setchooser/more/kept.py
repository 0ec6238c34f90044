"""Ties that choosers keep, and the rows that are missing in ties that they do not keep."""

from setchooser.base.books import MAX_PLACES, check_book, is_row, is_rows
from setchooser.base.masks import mask_of
from setchooser.base.names import is_integer
from setchooser.choose.choosers import check_chooser, choosers
from setchooser.errors import InvalidOperation, NoChooser


def is_tie_rows(book, value):
    """Whether the value is a set of rows, equally long, of one to three values of the book."""
    return any([is_rows(book.size, places, value) for places in range(1, MAX_PLACES + 1)])


def check_rows(book, rows):
    """An error unless this is a set of rows, equally long, of one to three values of the book."""
    if not is_tie_rows(book, rows):
        raise InvalidOperation("this is no set of rows of values of the book, equally long")


def check_passed(book, chooser, rows):
    """An error unless these are a book, a chooser of it, and a set of rows."""
    check_book(book)
    check_chooser(book, chooser)
    check_rows(book, rows)


def shadow_of(row):
    """The shadow that one row tells, as masks."""
    return tuple([1 << value for value in row])


def widened(shadows, row):
    """The shadows, as masks, that some rows tell with this one, without those that are among the shadows."""
    alone = shadow_of(row)
    wider = {alone: True}
    for shadow in shadows:
        wider[tuple([one | other for one, other in zip(shadow, alone)])] = True
    return [shadow for shadow in wider if shadow not in shadows]


def closed(tables, rows):
    """The rows of the least set that has these and is kept by choosers, each with the shadow that leads to it.

    This is a dict in the order in which the rows are found: these come first, with None, and each shadow is
    told by rows ahead of the one to which it leads. The choosers and the shadows have masks for sets.
    """
    found = {row: None for row in rows}
    known = list(rows)
    shadows = {}
    at = 0
    while at < len(known):
        wider = widened(shadows, known[at])
        for shadow in wider:
            shadows[shadow] = True
            for table in tables:
                led = tuple([table[mask] for mask in shadow])
                if led not in found:
                    found[led] = shadow
                    known.append(led)
        at += 1
    return found


def by_masks(chooser):
    """The chooser as a dict from the masks of the sets."""
    return {mask_of(taken): value for taken, value in chooser.items()}


def does_keep_rows(book, chooser, rows):
    """Whether the chooser keeps the tie with these rows."""
    check_passed(book, chooser, rows)
    return len(closed([by_masks(chooser)], rows)) == len(rows)


def closure(book, chooser, rows):
    """The least set of rows that contains these and is kept by the chooser."""
    check_passed(book, chooser, rows)
    return tuple(sorted(closed([by_masks(chooser)], rows)))


def lies_in(row, shadow):
    """Whether each value of the row is in the mask of the shadow at its place."""
    return all([mask >> value & 1 for value, mask in zip(row, shadow)])


def why_in(book, chooser, rows):
    """For each further row of the closure a number, and the rows with smaller numbers of which it is made."""
    check_passed(book, chooser, rows)
    told = {}
    ahead = []
    for row, shadow in closed([by_masks(chooser)], rows).items():
        if shadow is not None:
            # All rows ahead that lie in the shadow tell it, since those that made it are among them.
            told[row] = (len(told) + 1, tuple(sorted([other for other in ahead if lies_in(other, shadow)])))
        ahead.append(row)
    return {row: told[row] for row in sorted(told)}


def is_reason(size, places, value):
    """Whether the value is a pair of an integer of at least 1 and a set of rows that is not empty."""
    return (isinstance(value, tuple) and len(value) == 2 and is_integer(value[0]) and value[0] >= 1
            and is_rows(size, places, value[1]) and value[1] != ())


def is_why_in(book, chooser, rows, value):
    """Whether the value is a dict that tells for each further row of the closure how it is made."""
    further = [row for row in closure(book, chooser, rows) if row not in rows]
    if not isinstance(value, dict) or len(value) != len(further):
        return False
    if not further:
        return True
    places = len(rows[0])
    # The kinds of the numbers in the keys count, too, as True is not 1 there.
    if not all([is_row(book.size, places, row) and row in further for row in value]):
        return False
    if not all([is_reason(book.size, places, value[row]) for row in further]):
        return False
    return all([does_make(book, chooser, rows, value, row) for row in further])


def does_make(book, chooser, rows, why, row):
    """Whether the rows that are told for the row are there ahead of it, and the chooser makes it of them."""
    number, told = why[row]
    led = [chooser[tuple(sorted(set(column)))] for column in zip(*told)]
    return tuple(led) == row and all([other in rows or (other in why and why[other][0] < number) for other in told])


def closure_of_all(book, rows):
    """The least set of rows that contains these and is kept by all good choosers."""
    check_book(book)
    check_rows(book, rows)
    good = choosers(book)
    if not good:
        raise NoChooser(book.names)
    return tuple(sorted(closed([by_masks(table) for table in good], rows)))


def do_all_keep(book, rows):
    """Whether all good choosers keep the tie with these rows."""
    return closure_of_all(book, rows) == rows
