"""The shell: a desk that is worked with by lines of text."""

from setchooser.choose.choosers import chooser
from setchooser.choose.filled import common, fill
from setchooser.desk.desk import Desk
from setchooser.errors import (
    Emptied, InvalidBook, InvalidNet, InvalidNumber, InvalidOperation, NoChooser, NothingToUndo, TooMany, UnknownName)
from setchooser.more.told import told
from setchooser.strike.strikes import strikes
from setchooser.text.formats import read_book, read_net, write_book, write_chooser, write_net, write_value
from setchooser.text.words import (
    are_numbers, figures_of, is_one_name, is_one_number, is_told_applied, is_told_tie, numbers_of, rows_told,
    told_rows)

# The answers that tell nothing of the desk: done, nothing to tell, and no command.
DONE = "done"
NONE = "none"
WHAT = "what"


def yes_or_no(truth):
    """The word for a truth."""
    return "yes" if truth else "no"


def tell_book(desk):
    """The text of the book."""
    return write_book(desk.book)


def tell_net(desk):
    """The text of the net."""
    return write_net(desk.net)


def tell_held(desk):
    """What is held."""
    return " ".join(desk.held)


def tell_decided(desk):
    """Whether the book is decided."""
    return yes_or_no(desk.is_decided())


def tell_filled(desk):
    """Whether the net has a filling."""
    return yes_or_no(desk.is_filled())


def tell_lists(desk):
    """The figures of the lists that striking leaves."""
    return " ".join([figures_of(left) if left else "empty" for left in desk.lists()])


def tell_strikes(desk):
    """The lines of the struck values."""
    ranks = strikes(desk.book, desk.net)
    return "\n".join([f"{unknown} {value} {rank}" for (unknown, value), rank in ranks.items()])


def tell_paper(desk):
    """The text of the paper of the desk."""
    return write_value(desk.paper())


def tell_chooser(desk):
    """The text of the first good chooser of the book."""
    table = chooser(desk.book)
    return NONE if table is None else write_chooser(desk.book, table)


def tell_fill(desk):
    """The values of the filling that the first good chooser makes."""
    return " ".join([str(value) for value in fill(desk.book, desk.net)])


# The commands of one word.
TELLING = {
    "book": tell_book, "net": tell_net, "held": tell_held, "decided": tell_decided, "filled": tell_filled,
    "lists": tell_lists, "strikes": tell_strikes, "paper": tell_paper, "chooser": tell_chooser, "fill": tell_fill}


def tell(desk, word, rest):
    """The answer to a command that asks something of the desk, or None if this is none."""
    if not rest and word in TELLING:
        telling = TELLING[word]
        return telling(desk)
    if word == "common" and is_one_number(rest):
        return figures_of(common(desk.book, desk.net, int(rest[0])))
    if word == "told" and are_numbers(rest):
        return " ".join(rows_told(told(desk.book, desk.net, numbers_of(rest))))
    return None


def does_change(desk, word, rest):
    """Does a command that changes the desk. Whether this is one."""
    if word == "tie" and is_told_tie(rest):
        desk.tie(rest[0], int(rest[1]), told_rows(rest[2:]))
    elif word == "untie" and is_one_name(rest):
        desk.untie(rest[0])
    elif word == "apply" and is_told_applied(rest):
        desk.apply(rest[0], numbers_of(rest[1:]))
    elif word == "unapply" and is_told_applied(rest):
        desk.unapply(rest[0], numbers_of(rest[1:]))
    elif word == "add" and is_one_number(rest):
        desk.add(int(rest[0]))
    elif word == "hold" and is_one_name(rest):
        desk.hold(rest[0])
    elif word == "release" and is_one_name(rest):
        desk.release(rest[0])
    else:
        return does_step(desk, word, rest)
    return True


def does_step(desk, word, rest):
    """Does a command that undoes or redoes. Whether this is one."""
    if rest and not is_one_number(rest):
        return False
    many = int(rest[0]) if rest else 1
    if word == "undo":
        desk.undo(many=many)
    elif word == "redo":
        desk.redo(many=many)
    else:
        return False
    return True


def answer_of(desk, word, rest):
    """The answer to the command with this first word and these other ones."""
    if does_change(desk, word, rest):
        return DONE
    answer = tell(desk, word, rest)
    if answer is None:
        return WHAT
    return NONE if answer == "" else answer


class Shell:
    """A shell over a desk for the book and the net with these texts."""

    def __init__(self, book_text, net_text):
        self._desk = Desk(read_book(book_text), read_net(net_text))

    def desk(self):
        """A twin of the desk."""
        return self._desk.twin()

    def __call__(self, line):
        return self.answer(line)

    def answer(self, line):
        """Does the command of a line. Returns the text that answers it."""
        if not isinstance(line, str):
            return WHAT
        word, *rest = line.split(" ")
        try:
            return answer_of(self._desk, word, rest)
        except UnknownName as no_name:
            return f"unknown {no_name.name}"
        except InvalidNumber as no_number:
            return f"number {no_number.value}"
        except InvalidOperation:
            return "operation"
        except InvalidBook:
            return "book"
        except InvalidNet:
            return "net"
        except NoChooser:
            return "undecided"
        except Emptied as left_empty:
            return f"emptied {left_empty.unknown}"
        except TooMany as too_many:
            return f"many {too_many.limit}"
        except NothingToUndo as too_few:
            return f"undo {too_few.many}"
