"""Tests of setchooser.text.formats: stage 19 with points 19.1 and 19.2."""

import itertools
import random
import unittest

from helpers import (
    FORK, HORN, ODD, RING, STEP, XOR, Checks, all_choosers, least, no_books, no_choosers, no_nets, random_book,
    random_net, rows_where, same, strange_values)
from setchooser.base.books import Book
from setchooser.base.fillings import case_paper
from setchooser.base.nets import MAX_APPLIED, Net
from setchooser.choose.choosers import chooser
from setchooser.choose.filled import net_paper
from setchooser.errors import InvalidBook, InvalidChooser, InvalidName, InvalidNet, InvalidOperation, ParseError
from setchooser.text import formats as module
from setchooser.text.formats import (
    read_book, read_chooser, read_net, read_value, write_book, write_chooser, write_net, write_value)

SIXTY = "1" + "0" * 59


def nested_in(depth, value=()):
    """The value, an empty tuple at first, in so many tuples less one."""
    for _ in range(depth - 1):
        value = (value,)
    return value


def no_strings():
    return [value for value in strange_values() if not isinstance(value, str)]


def near(text):
    """Texts that are nearly this one, which are no texts of anything."""
    lines = text.split("\n")
    found = [text + "\n", "\n" + text, text + " ", " " + text, text.replace(" ", "  ", 1), text.replace(" ", "\t", 1),
             text + "\r", text.upper(), text.replace(" ", "", 1), text.replace(" ", "\n", 1), text + "\n\n"]
    for at, line in enumerate(lines):
        found.append("\n".join(lines[:at] + ["", line] + lines[at + 1:]))
        found.append("\n".join(lines[:at] + [line + " "] + lines[at + 1:]))
        found.append("\n".join(lines[:at] + [" " + line] + lines[at + 1:]))
        found.append("\n".join(lines[:at] + [line, line] + lines[at + 1:]))
        found += ["\n".join(lines[:at] + [line[:mark] + " " + line[mark:]] + lines[at + 1:])
                  for mark, sign in enumerate(line) if sign == " "]
        if at + 1 < len(lines):
            found.append("\n".join(lines[:at] + [lines[at + 1], line] + lines[at + 2:]))
    return found


def in_order(value):
    """The value with the keys of each dict in Python's order, if they have one, and else in that of repr."""
    if isinstance(value, tuple):
        return tuple(in_order(part) for part in value)
    if isinstance(value, dict):
        try:
            keys = sorted(value)
        except TypeError:
            keys = sorted(value, key=repr)
        return {key: in_order(value[key]) for key in keys}
    return value


def is_same_value(one, other):
    """Whether the values are equal with the same kinds in them, whatever the order of keys is."""
    def by_repr(value):
        if isinstance(value, tuple):
            return tuple(by_repr(part) for part in value)
        return {key: by_repr(value[key]) for key in sorted(value, key=repr)} if isinstance(value, dict) else value
    return same(by_repr(one), by_repr(other))


class Examples(unittest.TestCase, Checks):
    def test_the_examples_of_stage_19(self):
        self.assertEqual(
            [write_book(HORN).split("\n"), write_net(FORK).split("\n"),
             write_chooser(HORN, chooser(HORN)).split("\n"), write_book(Book(1, {"never": (2, ())}))],
            [['values 2', 'tie if 2 00 01 11', 'tie nand 2 00 01 10', 'tie no 1 0', 'tie yes 1 1'],
             ['unknowns 3', 'apply if 0 1', 'apply if 0 2', 'apply nand 1 2'], ['0 0', '01 0', '1 1'],
             'values 1\ntie never 2'])
        self.assertEqual(
            [read_book(write_book(STEP)) == STEP, read_net("unknowns 0") == Net(0, ()),
             read_chooser(XOR, "0 1\n01 1\n1 0"), write_value(("none", (0, {})))],
            [True, True, {(0,): 1, (0, 1): 1, (1,): 0}, '( =none ( 0 { } ) )'])
        self.assertEqual(
            [read_value("( =empty 0 { ( 0 1 ) 2 } none )"), read_net("unknowns 2\napply if 0 1").ties],
            [('empty', 0, {(0, 1): 2}, None), (('if', (0, 1)),)])
        self.fails(ParseError, read_book, "values 2\ntie a 1 2", index=2)
        self.fails(ParseError, read_net, "unknowns 2\napply if", index=1)

    def test_the_lines_of_the_document(self):
        self.assertEqual(write_book(STEP.only(("less",))), "values 3\ntie less 2 01 02 12")
        self.assertEqual(write_net(Net(3, (("less", (0, 1)),))), "unknowns 3\napply less 0 1")
        self.assertEqual(write_chooser(STEP, least(STEP)).split("\n")[2], "012 0")

    def test_the_place_of_the_functions(self):
        for name in ("write_book", "write_net", "write_chooser", "write_value", "read_book", "read_net",
                     "read_chooser", "read_value"):
            self.assertEqual(getattr(module, name).__module__, "setchooser.text.formats")


class Errors(unittest.TestCase, Checks):
    def test_wrong_arguments(self):
        book = (no_books, InvalidBook)
        self.refuses(write_book, (HORN,), [book])
        self.refuses(write_net, (FORK,), [(no_nets, InvalidNet)])
        self.refuses(write_chooser, (XOR, least(XOR)), [book, (lambda: no_choosers(XOR), InvalidChooser)])
        text = (no_strings, InvalidOperation)
        self.refuses(read_book, ("values 1",), [text])
        self.refuses(read_net, ("unknowns 1",), [text])
        self.refuses(read_value, ("0",), [text])
        self.refuses(read_chooser, (XOR, "0 1\n01 1\n1 0"), [book, text])
        # The book comes ahead of a text that is none.
        for value in (None, "", "0 1", "x"):
            self.fails(InvalidBook, read_chooser, FORK, value)
            self.fails(InvalidBook, read_chooser, None, value)

    def test_texts_that_are_none(self):
        for text in ("", "\n", " ", "values", "unknowns", "values 1 ", "?", "x" * 4000, "\n" * 4000, "( " * 2000,
                     "{ " * 2000, ") " * 2000, "0" * 4000, "yes no", "values 1 1", "~", "VALUES 1"):
            self.fails(ParseError, read_book, text, index=0)
            self.fails(ParseError, read_net, text, index=0)
            self.fails(ParseError, read_chooser, XOR, text, index=0)
            self.fails(ParseError, read_value, text, index=0)


class Books(unittest.TestCase, Checks):
    def test_there_and_back(self):
        source = random.Random(151)
        for size in (1, 2, 3, 4):
            for ties in range(9):
                for chance in (0.1, 0.5, 1):
                    book = random_book(source, size, ties, chance)
                    text = write_book(book)
                    self.assertEqual(read_book(text), book)
                    self.assertEqual(write_book(read_book(text)), text)
                    self.assertEqual(len(text.split("\n")), ties + 1)
        for book in (HORN, XOR, RING, STEP, Book(4, {})):
            self.assertEqual(read_book(write_book(book)), book)
        wide = Book(4, {"a": (3, rows_where(4, 3, lambda *row: True))})
        self.assertEqual(write_book(wide), "values 4\ntie a 3 " + " ".join(
            "".join(map(str, row)) for row in itertools.product(range(4), repeat=3)))

    def test_the_ties_in_any_order_of_the_dict(self):
        book = Book(2, {"z": (1, ()), "a": (1, ((1,),)), "aa": (1, ())})
        self.assertEqual(write_book(book), "values 2\ntie a 1 1\ntie aa 1\ntie z 1")

    def parse(self, text, index):
        self.fails(ParseError, read_book, text, index=index)

    def test_the_index_of_a_line_without_a_form(self):
        for line in ("", "tie", "tie a", "tie a ", "tie a b", "tie a 01", "tie a -1", "tie a 1 ", "tie a 1 x",
                     "tie a 1  0",
                     "tie A 1", "tie abcdefghi 1", "tie a1 1", " tie a 1", "Tie a 1", "ties a 1", "apply a 1",
                     "tie a 1 0,1",
                     "tie  a 1", "tie a 1 0 -", "tie a 1" + "0" * 60, "tie a 1.0", "tie 1 a", "tie a 1\t0",
                     "unknowns 1"):
            self.parse(f"values 2\n{line}", 1)
            self.parse(f"values 2\ntie b 1\n{line}\ntie c 1", 2)
            # The first one of two wrong lines, and a wrong line ahead of ties that no book has.
            self.parse(f"values 2\n{line}\n{line}", 1)
            self.parse(f"values 2\n{line}\nvalues 2", 1)
            self.parse(f"values 9\ntie b 9\ntie b 0 77\n{line}", 3)
            self.parse(f"{line}\n{line}", 0)

    def test_the_first_line(self):
        for line in ("values", "values ", "values 02", "values x", "values -1", "values 2 2", " values 2", "Values 2",
                     "values 1" + "0" * 60, "unknowns 2", "tie a 1", "tie a 1 0", "value 2", "values  2", "values 2 "):
            self.parse(line, 0)
            self.parse(f"{line}\ntie a 1 0", 0)
        # It cannot stand anywhere else.
        self.parse("values 2\nvalues 2", 1)
        self.parse("values 2\ntie a 1\nvalues 2", 2)

    def test_right_lines_of_no_book(self):
        for lines in (["values 0"], ["values 5"], ["values " + SIXTY], ["values 2", "tie a 0"], ["values 2", "tie a 4"],
                      ["values 2", "tie a " + SIXTY], ["values 2", "tie a 1 2"], ["values 2", "tie a 2 0"],
                      ["values 2", "tie a 1 00"], ["values 2", "tie a 2 01 00"], ["values 2", "tie a 2 01 01"],
                      ["values 2", "tie b 1", "tie a 1"], ["values 2", "tie a 1", "tie a 1"],
                      ["values 2", "tie a 1 0", "tie a 1 1"], ["values 2", "tie a 2 " + "0" * 3000],
                      ["values 2", *[f"tie {name} 1" for name in "abcdefghi"]], ["values 9", "tie b 0", "tie a 7 9"]):
            self.parse("\n".join(lines), len(lines))
        self.assertEqual(read_book("values 2\n" + "\n".join(f"tie {name} 1" for name in "abcdefgh")),
                         Book(2, {name: (1, ()) for name in "abcdefgh"}))

    def test_texts_near_right_ones(self):
        for book in (HORN, STEP, Book(1, {"never": (2, ())})):
            for text in near(write_book(book)):
                with self.assertRaises(ParseError):
                    read_book(text)
            lines = write_book(book).split("\n")
            self.parse("\n".join(lines) + "\n", len(lines))
            self.parse("\n".join(lines[:1] + lines[:0:-1]), len(lines)) if len(lines) > 2 else None
            for at in range(1, len(lines)):
                # Without a line it is the text of another book.
                less = book.without_tie(book.names[at - 1])
                self.assertEqual(read_book("\n".join(lines[:at] + lines[at + 1:])), less)
            self.parse("\n".join(lines[1:]), 0)


class Nets(unittest.TestCase, Checks):
    def parse(self, text, index):
        self.fails(ParseError, read_net, text, index=index)

    def test_there_and_back(self):
        source = random.Random(152)
        for size in range(61):
            book = random_book(source, 2, 4)
            net = random_net(source, book, size, source.choice((0, 1, 5, 40)))
            text = write_net(net)
            self.assertEqual(read_net(text), net)
            self.assertEqual(write_net(read_net(text)), text)
            self.assertEqual(len(text.split("\n")), len(net) + 1)
        for net in (FORK, ODD, Net(0, ()), Net(60, ()), Net(1, (("xor", (0, 0)),))):
            self.assertEqual(read_net(write_net(net)), net)
        # Ascending as pairs, which is not the order of the lines as strings.
        net = Net(12, (("a", (2,)), ("a", (2, 0)), ("a", (10,)), ("ab", (0,))))
        self.assertEqual(write_net(net), "unknowns 12\napply a 2\napply a 2 0\napply a 10\napply ab 0")

    def test_as_many_applied_ties_as_there_can_be(self):
        ties = sorted((name, row) for name in "abcd" for row in itertools.product(range(20), repeat=3))
        net = Net(20, tuple(ties[:MAX_APPLIED]))
        text = write_net(net)
        self.assertEqual(read_net(text), net)
        self.parse(text + "\napply z 0", MAX_APPLIED + 2)

    def test_the_index_of_a_line_without_a_form(self):
        for line in ("", "apply", "apply a", "apply a ", "apply a x", "apply a 00", "apply a 0 ", "apply a 0  1",
                     "apply a -1",
                     "apply A 0", "apply abcdefghi 0", " apply a 0", "Apply a 0", "tie a 1", "apply 0 a",
                     "apply a 1" + "0" * 60,
                     "apply  a 0", "values 1", "apply a 0 01", "apply a 0,1"):
            self.parse(f"unknowns 2\n{line}", 1)
            self.parse(f"unknowns 2\napply b 1\n{line}\napply c 1", 2)
            self.parse(f"unknowns 2\n{line}\nunknowns 2", 1)
            self.parse(f"unknowns 99\napply b 9 9 9 9\napply b 0\n{line}", 3)
            self.parse(f"{line}\n{line}", 0)

    def test_the_first_line(self):
        for line in ("unknowns", "unknowns ", "unknowns 02", "unknowns x", "unknowns -1", "unknowns 2 2", " unknowns 2",
                     "Unknowns 2", "unknowns 1" + "0" * 60, "values 2", "apply a 1", "unknown 2", "unknowns 2 "):
            self.parse(line, 0)
            self.parse(f"{line}\napply a 0", 0)
        self.parse("unknowns 2\nunknowns 2", 1)

    def test_right_lines_of_no_net(self):
        for lines in (["unknowns 61"], ["unknowns " + SIXTY], ["unknowns 2", "apply a 2"], ["unknowns 0", "apply a 0"],
                      ["unknowns 2", "apply a 0 0 0 0"], ["unknowns 2", "apply a 0", "apply a 0"],
                      ["unknowns 2", "apply a 1", "apply a 0"], ["unknowns 2", "apply b 0", "apply a 0"],
                      ["unknowns 2", "apply a " + SIXTY], ["unknowns 2", "apply a" + " 0" * 1000],
                      ["unknowns 12", "apply a 10", "apply a 2"]):
            self.parse("\n".join(lines), len(lines))

    def test_texts_near_right_ones(self):
        for net in (FORK, ODD, Net(1, (("xor", (0, 0)),))):
            for text in near(write_net(net)):
                with self.assertRaises(ParseError):
                    read_net(text)
            lines = write_net(net).split("\n")
            self.parse("\n".join(lines) + "\n", len(lines))
            self.parse("\n".join(lines[1:]), 0)
            for at in range(1, len(lines)):
                self.assertEqual(read_net("\n".join(lines[:at] + lines[at + 1:])), net.without_tie(*net.ties[at - 1]))


class Choosers(unittest.TestCase, Checks):
    def parse(self, book, text, index):
        self.fails(ParseError, read_chooser, book, text, index=index)

    def test_each_chooser_of_small_books_there_and_back(self):
        for book in (Book(1, {}), XOR, HORN):
            for table in all_choosers(book):
                text = write_chooser(book, table)
                self.assertEqual(text, "\n".join(
                    f"{''.join(map(str, taken))} {table[taken]}" for taken in book.sets))
                self.assertTrue(same(read_chooser(book, text), table))
                # The order of a passed dict has no effect, and a returned one has ascending keys.
                turned = {taken: table[taken] for taken in reversed(book.sets)}
                self.assertEqual(write_chooser(book, turned), text)
        source = random.Random(153)
        for size in (3, 4):
            book = Book(size, {})
            for _ in range(200):
                table = {taken: source.randrange(size) for taken in book.sets}
                self.assertTrue(same(read_chooser(book, write_chooser(book, table)), table))

    def test_the_index_of_a_line_without_a_form(self):
        for line in ("", "0", "0 ", " 0", "0 x", "x 0", "0 00", "0 -1", "0 0 0", "0  0", "-1 0", "0,1 0",
                     "0 1" + "0" * 60,
                     "01", "values 2", "0\t1", "= 0"):
            self.parse(XOR, f"0 1\n{line}\n1 0", 1)
            self.parse(XOR, f"{line}\n01 1\n1 0", 0)
            self.parse(XOR, f"0 1\n01 1\n1 0\n{line}", 3)
            self.parse(XOR, f"99 9\n{line}\n{line}", 1)

    def test_right_lines_of_no_chooser(self):
        for lines in (["0 1", "01 1"], ["0 1", "01 1", "1 2"], ["0 1", "01 1", "1 " + SIXTY], ["0 1", "01 1", "2 0"],
                      ["0 1", "10 1", "1 0"], ["0 1", "1 0", "01 1"], ["0 1", "0 1", "01 1", "1 0"], ["0 1", "00 1",
                                                                                                      "1 0"],
                      ["0 1", "01 1", "1 0", "1 0"], ["0 1", "01 1", "1 0", "012 0"], ["0 1", "01 1", "1 0",
                                                                                       "0" * 3000 + " 1"],
                      ["7 7"], ["0 1", "01 1", "1 0", "1 1"], ["01 1", "0 1", "1 0"]):
            self.parse(XOR, "\n".join(lines), len(lines))
        self.parse(STEP, write_chooser(XOR, least(XOR)), 3)
        self.parse(XOR, write_chooser(STEP, least(STEP)), 7)

    def test_texts_near_right_ones(self):
        for book in (XOR, STEP):
            text = write_chooser(book, least(book))
            for other in near(text):
                if other != text:
                    with self.assertRaises(ParseError):
                        read_chooser(book, other)
            lines = text.split("\n")
            for at in range(len(lines)):
                self.parse(book, "\n".join(lines[:at] + lines[at + 1:]), len(lines) - 1)
                self.parse(book, "\n".join(lines[:at] + lines[at:at + 1] + lines[at:]), len(lines) + 1)


VALUES = (
    (None, "none"), (True, "yes"), (False, "no"), (0, "0"), (7, "7"), (10 ** 59, SIXTY), (10 ** 60 - 1, "9" * 60),
    ("a", "=a"), ("none", "=none"), ("yes", "=yes"), ("abcdefgh", "=abcdefgh"), ((), "( )"), ({}, "{ }"),
    ((0,), "( 0 )"), (((),), "( ( ) )"), (({}, ()), "( { } ( ) )"), ((True, 1, "a", None), "( yes 1 =a none )"),
    ({"b": 1, "a": 2}, "{ =a 2 =b 1 }"), ({10: 0, 9: 0}, "{ 10 0 9 0 }"), ({True: 1}, "{ yes 1 }"), ({1: True},
                                                                                                     "{ 1 yes }"),
    ({None: {}, (): ()}, "{ ( ) ( ) none { } }"), ({(10, 2): 0, (2, 3): 0}, "{ ( 10 2 ) 0 ( 2 3 ) 0 }"),
    ({0: 0, "a": 0, None: 0, (0,): 0}, "{ =a 0 ( 0 ) 0 0 0 none 0 }"), ({False: 0, "x": 0}, "{ =x 0 no 0 }"),
    ({2: {1: {0: ()}}}, "{ 2 { 1 { 0 ( ) } } }"), ({("a", True): {"a": None}}, "{ ( =a yes ) { =a none } }"))


class Values(unittest.TestCase, Checks):
    def parse(self, text, index=0):
        self.fails(ParseError, read_value, text, index=index)

    def test_values_by_hand(self):
        for value, text in VALUES:
            self.assertEqual(write_value(value), text)
            self.assertTrue(is_same_value(read_value(text), value), text)

    def test_values_up_to_eight_deep(self):
        for depth in range(1, 9):
            value = nested_in(depth)
            self.assertEqual(write_value(value), " ".join(["("] * depth + [")"] * depth))
            self.assertTrue(same(read_value(write_value(value)), value))
            table = nested_in(depth, {})
            self.assertTrue(same(read_value(write_value(table)), table))
            wide = nested_in(depth, (1, "a", None, True))
            self.assertTrue(same(read_value(write_value(wide)), wide))
        for depth in range(1, 8):
            # Keys count, too.
            for value in ({nested_in(depth): 0}, {0: nested_in(depth)}, {nested_in(depth): nested_in(depth, {})}):
                self.assertTrue(same(read_value(write_value(value)), value))

    def test_values_without_a_text(self):
        for value in (nested_in(9), nested_in(9, {}), {nested_in(8): 0}, {0: nested_in(8)}, (0, nested_in(8)),
                      nested_in(10),
                      -1, 10 ** 60, -10 ** 59, 10 ** 99, "", "A", "a b", "abcdefghi", "a1", "=a", "(", "a\n", "yes!",
                      [], [0], ((0, []),), (0, -1), {0: -1}, {-1: 0}, {"A": 0}, {(0, "A"): 0}, {0: "A"}, {0: []},
                      ("a", "B"),
                      HORN, (HORN,), {0: FORK}, InvalidName("a"), (InvalidName("a"),), {InvalidName("a"): 0}):
            self.fails(InvalidOperation, write_value, value)

    def test_every_value(self):
        for value in strange_values():
            for one in (value, (value,), (0, value), {"a": value}):
                try:
                    text = write_value(one)
                except InvalidOperation:
                    continue
                self.assertTrue(is_same_value(read_value(text), one))

    def test_drawn_values_there_and_back(self):
        source = random.Random(154)

        def drawn(depth, key=False):
            kind = source.randrange(8 if depth else 6)
            if kind < 6:
                return source.choice((None, True, False, 0, 1, 2, 10, 11, 100, "a", "b", "ab", "none", "yes", 10 ** 59))
            if kind == 6 or key:
                return tuple(drawn(depth - 1, key) for _ in range(source.randrange(4)))
            return {drawn(depth - 1, True): drawn(depth - 1) for _ in range(source.randrange(4))}

        many = 0
        for _ in range(2000):
            value = drawn(source.randint(0, 8))
            text = write_value(value)
            many += len(text) > 30
            self.assertTrue(is_same_value(read_value(text), value))
            self.assertNotIn("\n", text)
        self.assertGreater(many, 100)

    def test_papers_of_the_program(self):
        for value in (case_paper(XOR, ODD), case_paper(HORN, FORK), net_paper(HORN, FORK),
                      net_paper(HORN, FORK.with_tie("yes", (0,)))):
            self.assertTrue(same(read_value(write_value(value)), value))
        self.assertEqual(write_value(("none", (0, ("xor", (0, 0)), ("xor", (0, 0))))),
                         "( =none ( 0 ( =xor ( 0 0 ) ) ( =xor ( 0 0 ) ) ) )")

    def test_the_keys_of_dicts_that_are_read_ascend(self):
        for text, keys in (("{ 10 0 9 0 }", [9, 10]), ("{ ( 10 2 ) 0 ( 2 10 ) 0 ( 2 3 ) 0 }", [(2, 3), (2, 10), (10,
                                                                                                                 2)]),
                           ("{ =a 0 =ab 0 =b 0 }", ["a", "ab", "b"]), ("{ 10 0 2 0 3 0 }", [2, 3, 10]),
                           ("{ ( ( ) 5 ) 0 ( ( ) ) 0 }", [((),), ((), 5)]), ("{ 10 0 9 0 yes 0 }", [True, 9, 10])):
            self.assertTrue(same(list(read_value(text)), keys))
            self.assertTrue(same(list(read_value(f"( 0 {text} )")[1]), keys))
        source = random.Random(155)
        for _ in range(100):
            table = {(source.randrange(60), source.randrange(4)): source.randrange(99) for _ in range(30)}
            self.assertTrue(same(read_value(write_value(table)), in_order(table)))

    def test_texts_of_no_value(self):
        for text in ("", " ", "(", ")", "( ", "( (", "( ) )", ") (", "( }", "{ )", "{", "}", "{ 0 }", "{ 0 1 2 }",
                     "( 0", "0 )",
                     "0 0", "( 0  0 )", " 0", "0 ", "( )  ", "00", "01", "-1", "1" + "0" * 60, "=", "=A", "=a b",
                     "= a", "a",
                     "=abcdefghi", "None", "True", "Yes", "YES", "null", "'a'", "( , )", "()", "{}", "(0)", "[ ]",
                     "0,", "1.0",
                     "+1", "1_0", "=a=", "==a", "( yes no", "=a1", "\t0", "0\t"):
            self.parse(text)
            # Whatever comes behind it.
            self.parse(text + "\n0")
            self.parse(text + "\n")

    def test_keys_that_cannot_be(self):
        for text in ("{ 0 1 0 2 }", "{ 0 1 0 1 }", "{ yes 0 1 0 }", "{ 1 0 yes 0 }", "{ no 0 0 0 }", "{ 0 0 no 0 }",
                     "{ ( 1 ) 0 ( yes ) 0 }", "{ ( yes ) 0 ( 1 ) 0 }", "{ =a 0 =a 0 }", "{ none 0 none 0 }",
                     # In another order than that of repr.
                     "{ 9 0 10 0 }", "{ =b 1 =a 2 }", "{ none 0 =a 0 }", "{ 0 0 ( ) 0 }", "{ ( 2 3 ) 0 ( 10 2 ) 0 }",
                     "{ none 0 yes 0 no 0 }",
                     # With dicts in them.
                     "{ { } 0 }", "{ ( { } ) 0 }", "{ ( 0 ( { 0 1 } ) ) 0 }", "{ { 0 1 } { 0 1 } }"):
            self.parse(text)
            self.parse(f"( {text} )")
            self.parse(text + "\n")
        self.assertTrue(same(read_value("{ 0 0 2 0 }"), {0: 0, 2: 0}))
        self.assertTrue(same(read_value("( 1 yes 0 no )"), (1, True, 0, False)))

    def test_texts_that_are_too_deep(self):
        for depth in (9, 10, 100, 1000):
            self.parse(" ".join(["("] * depth + [")"] * depth))
            self.parse(" ".join(["("] * (depth - 1) + ["{ }"] + [")"] * (depth - 1)))
        self.parse("{ " + write_value(nested_in(8)) + " 0 }")
        self.assertTrue(same(read_value("{ " + write_value(nested_in(7)) + " 0 }"), {nested_in(7): 0}))

    def test_more_lines(self):
        for value, text in VALUES:
            for more in ("\n", "\n0", "\n\n", "\n" + text, "\n(", "\n "):
                self.parse(text + more, 1)
            for wrong in (text + " ", " " + text, text + " )", "( " + text):
                self.parse(wrong)
                self.parse(wrong + "\n0")
        for value, text in VALUES:
            words = text.split(" ")
            for at in range(len(words)):
                less = " ".join(words[:at] + words[at + 1:])
                try:
                    # Without a word it is no text, or that of another value.
                    self.assertEqual(write_value(read_value(less)), less)
                except ParseError as error:
                    self.assertEqual(error.index, 0)
            if "( " in text or "{ " in text:
                self.parse(text.replace(" ", "  ", 1))

    def test_long_texts(self):
        value = tuple({"a": at, "b": (None, True)} for at in range(5000))
        self.assertTrue(same(read_value(write_value(value)), value))
        self.assertTrue(same(read_value("( " + "0 " * 1999 + ")"), (0,) * 1999))


if __name__ == "__main__":
    unittest.main()
