"""Texts of books, nets, choosers and values, and what is read from them."""

from setchooser.base.books import MAX_VALUES, Book, check_book, is_ties
from setchooser.base.names import is_name, is_number
from setchooser.base.nets import Net, check_net, is_applied_set, is_size
from setchooser.choose.choosers import check_chooser, is_chooser
from setchooser.errors import InvalidOperation, ParseError
from setchooser.text.words import (
    figures_of, is_figures, is_number_word, is_one_number, is_told_applied, is_told_tie, numbers_of, rows_told,
    told_rows, values_of)

MAX_DEPTH = 8
PLAIN_WORDS = {"yes": True, "no": False, "none": None}
# What ends a tuple, and what ends a dict.
ENDS = {"(": ")", "{": "}"}


def write_book(book):
    """The text of a book."""
    check_book(book)
    lines = [f"values {book.size}"]
    for name in book.names:
        lines.append(" ".join(["tie", name, str(book.places(name)), *rows_told(book[name])]))
    return "\n".join(lines)


def write_net(net):
    """The text of a net."""
    check_net(net)
    lines = [f"unknowns {net.size}"]
    for name, unknowns in net.ties:
        lines.append(" ".join(["apply", name, *[str(unknown) for unknown in unknowns]]))
    return "\n".join(lines)


def write_chooser(book, chooser):
    """The text of a chooser of the book."""
    check_book(book)
    check_chooser(book, chooser)
    return "\n".join([f"{figures_of(taken)} {chooser[taken]}" for taken in book.sets])


def write_value(value):
    """The text of a value, which is one line."""
    return " ".join(words_for(value, 0))


def words_for(value, depth):
    """The words of a value that stands in so many tuples and dicts."""
    if value is None:
        return ["none"]
    if value is True or value is False:
        return ["yes" if value else "no"]
    if is_number(value):
        return [str(value)]
    if is_name(value):
        return [f"={value}"]
    if isinstance(value, tuple) and depth < MAX_DEPTH:
        return ["(", *words_for_all(value, depth + 1), ")"]
    if isinstance(value, dict) and depth < MAX_DEPTH:
        keys = sorted(list(value), key=lambda one: repr(one))
        return ["{", *words_for_all([part for key in keys for part in (key, value[key])], depth + 1), "}"]
    raise InvalidOperation("the value has no text")


def words_for_all(values, depth):
    """The words of values that stand in so many tuples and dicts, one after another."""
    return [word for value in values for word in words_for(value, depth)]


def lines_of(text):
    """The lines of a text."""
    if not isinstance(text, str):
        raise InvalidOperation("a text is a string")
    return text.split("\n")


def words_by_line(text, is_right):
    """For each line of the text its words, which are right for a line with its index."""
    told = [line.split(" ") for line in lines_of(text)]
    for index, words in enumerate(told):
        if not is_right(index, words):
            raise ParseError(index)
    return told


def is_book_line(index, words):
    """Whether a line with these words can stand at this index in the text of a book."""
    if index == 0:
        return words[0] == "values" and is_one_number(words[1:])
    return words[0] == "tie" and is_told_tie(words[1:])


def is_net_line(index, words):
    """Whether a line with these words can stand at this index in the text of a net."""
    if index == 0:
        return words[0] == "unknowns" and is_one_number(words[1:])
    return words[0] == "apply" and is_told_applied(words[1:])


def is_chooser_line(index, words):
    """Whether a line with these words can stand in the text of a chooser, at whatever index."""
    return len(words) == 2 and is_figures(words[0]) and is_number_word(words[1])


def read_book(text):
    """The book with this text."""
    told = words_by_line(text, is_book_line)
    size = int(told[0][1])
    ties = {words[1]: (int(words[2]), told_rows(words[3:])) for words in told[1:]}
    if 1 <= size <= MAX_VALUES and is_ties(size, ties):
        book = Book(size, ties)
        if write_book(book) == text:
            return book
    raise ParseError(len(told))


def read_net(text):
    """The net with this text."""
    told = words_by_line(text, is_net_line)
    size = int(told[0][1])
    ties = tuple([(words[1], numbers_of(words[2:])) for words in told[1:]])
    if is_size(size) and is_applied_set(size, ties):
        return Net(size, ties)
    raise ParseError(len(told))


def read_chooser(book, text):
    """The chooser of the book with this text."""
    check_book(book)
    told = words_by_line(text, is_chooser_line)
    table = {values_of(words[0]): int(words[1]) for words in told}
    if is_chooser(book, table) and write_chooser(book, table) == text:
        return {taken: table[taken] for taken in book.sets}
    raise ParseError(len(told))


def read_value(text):
    """The value with this text."""
    lines = lines_of(text)
    words = lines[0].split(" ")
    value, behind = value_at(words, 0, 0)
    # A dict with equal keys, or with keys in another order, has not this text either.
    if behind < len(words) or write_value(value) != lines[0]:
        raise ParseError(0)
    if len(lines) > 1:
        raise ParseError(1)
    return value


def value_at(words, at, depth):
    """The value whose words begin at this index, in so many tuples and dicts, and the index behind them."""
    word = words[at] if at < len(words) else ""
    if word in PLAIN_WORDS:
        return PLAIN_WORDS[word], at + 1
    if is_number_word(word):
        return int(word), at + 1
    if word[:1] == "=" and is_name(word[1:]):
        return word[1:], at + 1
    if word in ENDS and depth < MAX_DEPTH:
        parts, behind = parts_at(words, at + 1, depth + 1, ENDS[word])
        return tuple(parts) if word == "(" else dict_of(parts), behind
    raise ParseError(0)


def parts_at(words, at, depth, end):
    """The list of the values whose words begin at this index, up to the word that ends them, and the index behind."""
    parts = []
    while at == len(words) or words[at] != end:
        part, at = value_at(words, at, depth)
        parts.append(part)
    return parts, at + 1


def dict_of(parts):
    """The dict of these keys and values, which stand by turns."""
    keys = parts[::2]
    if len(parts) % 2 or any([has_dict(key) for key in keys]):
        raise ParseError(0)
    told = {key: part for key, part in zip(keys, parts[1::2])}
    return {key: told[key] for key in sorted(list(told), key=rank_of)}


def rank_of(key):
    """What is to be compared of keys of all kinds, so that they ascend in Python's order where it has one."""
    if key is None:
        return (0,)
    if isinstance(key, int):
        return 1, key
    if isinstance(key, str):
        return 2, key
    return 3, tuple([rank_of(part) for part in key])


def has_dict(value):
    """Whether the value is a dict or has one in it."""
    return isinstance(value, dict) or isinstance(value, tuple) and any([has_dict(part) for part in value])
