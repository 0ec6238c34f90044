"""The words in the lines of texts: names, numbers and figures, and the forms of lines that have them."""

from setchooser.base.names import is_name

MAX_DIGITS = 60
DIGITS = "0123456789"


def is_figures(word):
    """Whether the word has one or more signs, all of them digits."""
    return word != "" and all([sign in DIGITS for sign in word])


def is_number_word(word):
    """Whether the word tells an integer of at least 0 that has at most sixty digits."""
    return is_figures(word) and len(word) <= MAX_DIGITS and (word == "0" or word[0] != "0")


def are_numbers(words):
    """Whether these are one or more words for numbers."""
    return len(words) > 0 and all([is_number_word(word) for word in words])


def numbers_of(words):
    """The tuple of the numbers that the words tell."""
    return tuple([int(word) for word in words])


def values_of(word):
    """The tuple of the values that the figures tell."""
    return tuple([int(sign) for sign in word])


def figures_of(values):
    """The figures for values."""
    return "".join([str(value) for value in values])


def told_rows(words):
    """The tuple of the rows that the figures tell, in their order."""
    return tuple([values_of(word) for word in words])


def rows_told(rows):
    """The words with the figures of the rows."""
    return [figures_of(row) for row in rows]


def is_one_name(words):
    """Whether this is one word, a name."""
    return len(words) == 1 and is_name(words[0])


def is_one_number(words):
    """Whether this is one word, for a number."""
    return len(words) == 1 and is_number_word(words[0])


def is_told_tie(words):
    """Whether these are a name, a word for a number, and any figures, perhaps none."""
    return is_one_name(words[:1]) and is_one_number(words[1:2]) and all([is_figures(word) for word in words[2:]])


def is_told_applied(words):
    """Whether these are a name, and one or more words for numbers."""
    return is_one_name(words[:1]) and are_numbers(words[1:])
