"""Tests of setchooser.base.books: points 0.2, 0.4, 0.7, 0.19, 1.3 and stage 2."""

import copy
import itertools
import random
import unittest

from helpers import (
    FORK, HORN, RING, STEP, XOR, Checks, no_names, no_names_of, random_book, rows_where, same, strange_values)
from setchooser.base import books
from setchooser.base.books import MAX_PLACES, MAX_TIES, MAX_VALUES, Book
from setchooser.errors import InvalidBook, InvalidName, InvalidNumber, InvalidOperation, UnknownName

EIGHT = Book(2, {name: (1, ((0,),)) for name in "abcdefgh"})
EMPTY = Book(3, {})


class Examples(unittest.TestCase, Checks):
    def test_the_examples_of_stage_2(self):
        self.assertEqual(
            [HORN.names, HORN["nand"], HORN.places("no"), STEP.sets, "xor" in XOR, len(HORN), str(STEP),
             RING.turned((1, 2, 0)) == RING],
            [('if', 'nand', 'no', 'yes'), ((0, 0), (0, 1), (1, 0)), 1,
             ((0,), (0, 1), (0, 1, 2), (0, 2), (1,), (1, 2), (2,)), True, 4, 'book of 3 values, 2 ties', True])
        self.assertEqual(
            [HORN.only(("no",)) + XOR == Book(2, {"no": (1, ((0,),)), "xor": (2, ((0, 1), (1, 0)))}),
             HORN.without_tie("if").names, XOR.turned((1, 0)) == XOR],
            [True, ('nand', 'no', 'yes'), True])
        self.fails(InvalidBook, Book, 2, {"xor": (2, ((0, 2),))})

    def test_the_constants_and_the_place_of_the_class(self):
        self.assertEqual((MAX_VALUES, MAX_TIES, MAX_PLACES), (4, 8, 3))
        self.assertEqual(Book.__module__, books.__name__)
        for name in ("__getitem__", "__contains__", "__len__", "__eq__", "__str__", "__iter__", "__add__", "places",
                     "with_tie", "without_tie", "only", "renamed", "turned"):
            self.assertIn(name, vars(Book))


class Creation(unittest.TestCase, Checks):
    def test_sizes(self):
        for size in (1, 2, 3, 4):
            self.assertEqual(Book(size, {}).size, size)
        for size in strange_values():
            if isinstance(size, bool) or size not in [1, 2, 3, 4]:
                self.fails(InvalidNumber, Book, size, {}, value=size)
                self.fails(InvalidNumber, Book, size, None, value=size)

    def test_numbers_of_ties(self):
        self.assertEqual(Book(2, {}).names, ())
        self.assertEqual(len(EIGHT), 8)
        nine = {name: (1, ()) for name in "abcdefghi"}
        self.fails(InvalidBook, Book, 2, nine)

    def test_numbers_of_places(self):
        rows = {1: ((0,), (1,)), 2: ((0, 1),), 3: ((0, 1, 1), (1, 0, 0))}
        for places in (1, 2, 3):
            self.assertEqual(Book(2, {"a": (places, rows[places])}).places("a"), places)
            self.assertEqual(Book(2, {"a": (places, ())})["a"], ())
        for places in (0, 4, -1, True, None, "1", (1,), [1], 10 ** 60, 10 ** 99):
            self.fails(InvalidBook, Book, 2, {"a": (places, ())})
        self.fails(InvalidBook, Book, 2, {"a": (4, ((0, 0, 0, 0),))})
        self.fails(InvalidBook, Book, 2, {"a": (0, ((),))})
        self.fails(InvalidBook, Book, 2, {"a": (True, ((0,),))})

    def test_rows(self):
        for rows in (((0, 1), (0, 0)), ((0, 0), (0, 0)), ((0,),), ((0, 0, 0),), ((0, 0), (0, 0, 1)), ((0, 2),),
                     ((0, -1),), ((0, True),), ((False, 1),), ((0, None),), (0, 1), ([0, 1],), [(0, 1)], [], {}, None,
                     "", ((),), (None,), ("ab",), ((0, "b"),), ((0, 10 ** 99),), (((0, 1),),), {(0, 1): 1}):
            self.fails(InvalidBook, Book, 2, {"a": (2, rows)})
        self.fails(InvalidBook, Book, 1, {"a": (1, ((0,), (1,)))})
        self.assertEqual(Book(4, {"a": (1, ((0,), (3,)))})["a"], ((0,), (3,)))
        self.fails(InvalidBook, Book, 4, {"a": (1, ((0,), (4,)))})
        every = rows_where(4, 3, lambda *row: True)
        self.assertEqual(len(Book(4, {"a": (3, every)})["a"]), 64)

    def test_pairs(self):
        for pair in (None, 2, (), (2,), (2, (), ()), [2, ()], "ab", {2: ()}, ((), 2), (2, ((0, 1),), None)):
            self.fails(InvalidBook, Book, 2, {"a": pair})

    def test_names(self):
        for name in no_names():
            if isinstance(name, (str, int, type(None))):
                self.fails(InvalidBook, Book, 2, {name: (1, ())})
        for name in (("a",), (), (1, 2), "A", "a1"):
            self.fails(InvalidBook, Book, 2, {"a": (1, ()), name: (1, ())})
        self.assertEqual(Book(2, {"abcdefgh": (1, ())}).names, ("abcdefgh",))

    def test_other_values_are_no_ties(self):
        for value in strange_values():
            if not same(value, {}) and not same(value, {"if": (2, ((0, 0),))}):
                self.fails(InvalidBook, Book, 2, value)

    def test_what_is_passed_stays_and_is_not_shared(self):
        ties = {"b": (1, ((0,),)), "a": (1, ())}
        before = copy.deepcopy(ties)
        book = Book(2, ties)
        self.assertTrue(same(ties, before))
        self.assertEqual(list(ties), ["b", "a"])
        ties["c"] = (1, ())
        ties["a"] = (1, ((1,),))
        self.assertEqual(book, Book(2, before))
        self.assertEqual(book.names, ("a", "b"))

    def test_the_order_of_the_dict_has_no_effect(self):
        one = Book(2, {"a": (1, ()), "b": (2, ())})
        other = Book(2, {"b": (2, ()), "a": (1, ())})
        self.assertEqual(one, other)
        self.assertEqual(list(one), list(other))


class Told(unittest.TestCase, Checks):
    def test_properties(self):
        self.assertEqual((HORN.size, EMPTY.size), (2, 3))
        self.assertEqual((EMPTY.names, EIGHT.names), ((), tuple("abcdefgh")))
        self.assertEqual(Book(1, {}).sets, ((0,),))
        self.assertEqual(Book(2, {}).sets, ((0,), (0, 1), (1,)))
        for size in (1, 2, 3, 4):
            every = [taken for many in range(1, size + 1) for taken in itertools.combinations(range(size), many)]
            self.assertEqual(Book(size, {}).sets, tuple(sorted(every)))

    def test_a_book_never_changes(self):
        for name in ("size", "names", "sets"):
            with self.assertRaises(AttributeError):
                setattr(HORN, name, 1)

    def test_items(self):
        self.assertEqual(HORN["yes"], ((1,),))
        self.assertEqual(Book(1, {"never": (2, ())})["never"], ())
        for name in no_names_of(HORN) + ["or", "nandx"]:
            self.fails(UnknownName, lambda: HORN[name], name=name)
            self.fails(UnknownName, HORN.places, name, name=name)
            self.fails(UnknownName, EMPTY.places, name, name=name)

    def test_places(self):
        self.assertEqual([HORN.places(name) for name in HORN], [2, 2, 1, 1])
        self.assertEqual(Book(2, {"a": (3, ())}).places("a"), 3)

    def test_contains(self):
        for name in HORN.names:
            self.assertIs(name in HORN, True)
        for value in no_names_of(HORN) + ["or"]:
            self.assertIs(value in HORN, False, value)

    def test_len_str_and_iteration(self):
        self.assertEqual([len(EMPTY), len(XOR), len(EIGHT)], [0, 1, 8])
        self.assertEqual(str(HORN), "book of 2 values, 4 ties")
        self.assertEqual(str(Book(1, {"a": (1, ())})), "book of 1 values, 1 ties")
        self.assertEqual(str(EMPTY), "book of 3 values, 0 ties")
        self.assertEqual(list(HORN), ["if", "nand", "no", "yes"])
        self.assertEqual(list(EMPTY), [])
        self.assertEqual([name for name in HORN for other in HORN][:5], ["if"] * 4 + ["nand"])

    def test_equality(self):
        self.assertTrue(XOR == Book(2, {"xor": (2, ((0, 1), (1, 0)))}))
        self.assertFalse(XOR != Book(2, {"xor": (2, ((0, 1), (1, 0)))}))
        for other in (Book(3, {"xor": (2, ((0, 1), (1, 0)))}), Book(2, {"xor": (2, ((0, 1),))}),
                      Book(2, {"yor": (2, ((0, 1), (1, 0)))}), Book(2, {}), HORN + XOR):
            self.assertIs(XOR == other, False)
            self.assertIs(XOR != other, True)
        self.assertIs(Book(2, {"a": (1, ())}) == Book(2, {"a": (2, ())}), False)
        self.assertIs(Book(2, {}) == Book(3, {}), False)
        for value in strange_values():
            self.assertIs(EIGHT == value, False)
            self.assertIs(EIGHT != value, True)
            self.assertIs(value == EIGHT, False)
            self.assertIs(value != EIGHT, True)


class Changed(unittest.TestCase, Checks):
    def setUp(self):
        self.before = [Book(2, {name: (HORN.places(name), HORN[name]) for name in HORN}),
                       Book(2, {name: (1, ((0,),)) for name in "abcdefgh"})]

    def tearDown(self):
        self.assertEqual([HORN, EIGHT], self.before)

    def test_with_tie(self):
        more = HORN.with_tie("or", 2, ((0, 1), (1, 0), (1, 1)))
        self.assertEqual(more.names, ("if", "nand", "no", "or", "yes"))
        self.assertEqual(more["or"], ((0, 1), (1, 0), (1, 1)))
        self.assertEqual(more.without_tie("or"), HORN)
        other = HORN.with_tie("no", 3, ())
        self.assertEqual((other.names, other.places("no"), other["no"]), (HORN.names, 3, ()))
        anew = EIGHT.with_tie("c", 2, ((1, 1),))
        self.assertEqual((len(anew), anew["c"]), (8, ((1, 1),)))
        self.assertEqual(HORN.with_tie("no", 1, ((0,),)), HORN)

    def test_errors_of_with_tie(self):
        for name in no_names():
            self.fails(InvalidName, HORN.with_tie, name, 1, ((0,),))
            self.fails(InvalidName, HORN.with_tie, name, None, None)
        self.fails(InvalidName, EIGHT.with_tie, "Far", 1, ())
        for places in (0, 4, True, None, "2", 10 ** 99, (2,)):
            self.fails(InvalidBook, HORN.with_tie, "or", places, ())
        for rows in (((1, 0), (0, 1)), ((0, 2),), ((0,),), ((0, 1), (0, 1)), [(0, 1)], None, 0, ((0, True),)):
            self.fails(InvalidBook, HORN.with_tie, "or", 2, rows)
        self.fails(InvalidBook, EIGHT.with_tie, "i", 1, ())
        self.fails(InvalidBook, EIGHT.with_tie, "a", 4, ())

    def test_without_tie(self):
        self.assertEqual(XOR.without_tie("xor"), Book(2, {}))
        self.assertEqual(HORN.without_tie("no")["yes"], ((1,),))
        for name in no_names_of(HORN):
            self.fails(UnknownName, HORN.without_tie, name, name=name)

    def test_only(self):
        self.assertEqual(HORN.only(()), Book(2, {}))
        self.assertEqual(HORN.only(HORN.names), HORN)
        self.assertEqual(HORN.only(("if", "yes")), Book(2, {"if": (2, HORN["if"]), "yes": (1, ((1,),))}))
        for names in strange_values() + [("yes", "if"), ("if", "if"), ("if", "or"), ("if", None), ["if"], ("if", 1),
                                         {"if": 1}, "if", (("if",),)]:
            if not same(names, ()):
                self.fails(InvalidOperation, HORN.only, names)

    def test_renamed(self):
        self.assertEqual(HORN.renamed({}), HORN)
        self.assertEqual(HORN.renamed({"no": "zero"}),
                         HORN.without_tie("no").with_tie("zero", 1, ((0,),)))
        swapped = HORN.renamed({"no": "yes", "yes": "no"})
        self.assertEqual((swapped["no"], swapped["yes"], swapped.names), (((1,),), ((0,),), HORN.names))
        self.assertEqual(HORN.renamed({"no": "no"}), HORN)
        moved = HORN.renamed({"if": "nand", "nand": "far"})
        self.assertEqual((moved["nand"], moved["far"]), (HORN["if"], HORN["nand"]))

    def test_errors_of_renamed(self):
        for names in strange_values() + [
                {"no": "yes"}, {"no": "zero", "yes": "zero"}, {"or": "far"}, {"no": "No"}, {"no": ""}, {"no": None},
                {"no": ("zero",)}, {"no": "abcdefghi"}, {1: "a"}, {("no",): "zero"}, {"no": 1}, (("no", "zero"),),
                {"no": "zero", "or": "far"}, {"no": "yes", "yes": "yes"}]:
            if not same(names, {}):
                self.fails(InvalidOperation, HORN.renamed, names)
        names = {"no": "zero"}
        HORN.renamed(names)
        self.assertEqual(names, {"no": "zero"})

    def test_turned(self):
        less = Book(3, {"less": (2, ((0, 1), (0, 2), (1, 2)))})
        self.assertEqual(less.turned((0, 1, 2)), less)
        self.assertEqual(less.turned((2, 1, 0))["less"], ((1, 0), (2, 0), (2, 1)))
        # Each value v is replaced by the one at index v.
        self.assertEqual(Book(3, {"a": (2, ((0, 1),))}).turned((1, 2, 0))["a"], ((1, 2),))
        self.assertEqual(HORN.turned((1, 0))["no"], ((1,),))
        self.assertEqual(Book(1, {}).turned((0,)), Book(1, {}))
        for values in strange_values() + [(0, 1, 2), (0,), (1, 1), (0, True), (0, 2), (1, -1), [1, 0], {0: 1, 1: 0}]:
            if not same(values, (0, 1)) and not same(values, (1, 0)):
                self.fails(InvalidOperation, HORN.turned, values)
        self.fails(InvalidOperation, EMPTY.turned, (0, 1))

    def test_renaming_and_turning_lead_back(self):
        source = random.Random(1)
        for _ in range(50):
            book = random_book(source, source.randint(1, 4), source.randint(0, 8))
            values = list(range(book.size))
            source.shuffle(values)
            back = tuple(values.index(value) for value in range(book.size))
            turned = book.turned(tuple(values))
            self.assertEqual((turned.size, turned.names), (book.size, book.names))
            self.assertEqual(turned.turned(back), book)
            for name in book:
                self.assertEqual(set(turned[name]), {tuple(values[value] for value in row) for row in book[name]})
            names = dict(zip(book.names, source.sample("ghijklmnop", len(book))))
            renamed = book.renamed(names)
            self.assertEqual({names[name]: book[name] for name in book}, {name: renamed[name] for name in renamed})
            self.assertEqual(renamed.renamed({other: name for name, other in names.items()}), book)


class Added(unittest.TestCase, Checks):
    def test_sums(self):
        self.assertEqual((HORN + XOR).names, ("if", "nand", "no", "xor", "yes"))
        self.assertEqual(HORN + XOR, XOR + HORN)
        self.assertEqual(HORN + HORN, HORN)
        self.assertEqual(HORN + Book(2, {}), HORN)
        self.assertEqual(HORN.only(("if", "no")) + HORN.only(("no", "yes")), HORN.without_tie("nand"))
        self.assertEqual(len(HORN), 4)
        self.assertEqual(EIGHT + EIGHT, EIGHT)

    def test_the_other_operand_is_a_book_of_the_same_size(self):
        for other in strange_values() + [RING, Book(3, {}), Book(1, {})]:
            if not isinstance(other, Book) or other.size != 2:
                self.fails(InvalidOperation, lambda: HORN + other)
                self.fails(InvalidOperation, lambda: other + HORN)
        # The wrong size comes ahead of unlike ties.
        self.fails(InvalidOperation, lambda: XOR + Book(3, {"xor": (1, ())}))
        self.fails(InvalidOperation, lambda: HORN + FORK)
        self.fails(InvalidOperation, lambda: FORK + HORN)

    def test_unlike_ties_and_too_many(self):
        self.fails(InvalidBook, lambda: XOR + Book(2, {"xor": (2, ((0, 1),))}))
        self.fails(InvalidBook, lambda: Book(2, {"a": (1, ())}) + Book(2, {"a": (2, ())}))
        self.fails(InvalidBook, lambda: EIGHT + XOR)
        seven = EIGHT.without_tie("h")
        self.assertEqual(len(seven + XOR), 8)
        self.fails(InvalidBook, lambda: seven + XOR.with_tie("y", 1, ()))


if __name__ == "__main__":
    unittest.main()
