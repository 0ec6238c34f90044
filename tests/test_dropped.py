"""Tests of setchooser.more.dropped: stage 15 with point 15.1, and points 0.18 and 0.19 on fewer ties."""

import itertools
import random
import unittest

from helpers import (
    HORN, RING, STEP, XOR, Checks, all_good, is_tree, no_books, random_book, rows_where, same, strange_values)
from setchooser.base.books import Book
from setchooser.base.fillings import case_paper, is_case_paper
from setchooser.base.nets import Net
from setchooser.choose.choosers import chooser
from setchooser.choose.decided import book_paper, is_decided
from setchooser.choose.setnets import set_net
from setchooser.errors import InvalidBook, InvalidOperation
from setchooser.more import dropped as module
from setchooser.more.dropped import greatest_decided, is_spoilers_of, least_undecided, needed_for, spoilers_of

SPLIT = Book(2, {"g": (3, ((0, 0, 0), (0, 1, 0), (0, 1, 1), (1, 0, 0), (1, 0, 1), (1, 1, 1))),
                 "no": (1, ((0,),)), "yes": (1, ((1,),))})
MIXED = HORN + XOR
# Ties of which no single one is decided.
NONE = Book(2, {"nae": (3, rows_where(2, 3, lambda *row: len(set(row)) > 1)), "ne": (2, ((0, 1), (1, 0))),
                "one": (3, rows_where(2, 3, lambda *row: sum(row) == 1))})


def all_names(book):
    return [names for many in range(len(book) + 1) for names in itertools.combinations(book.names, many)]


def decided_by_force(book):
    """The sets of names that some chooser keeps, by a check of all choosers with all choices of rows."""
    kept = {name: [tuple(table.values()) for table in all_good(book.only((name,)))] for name in book}
    return [names for names in all_names(book) if not names or set.intersection(
        *[set(kept[name]) for name in names])]


def greatest(decided):
    return tuple(sorted(names for names in decided if not any(set(names) < set(other) for other in decided)))


def least_of(book, decided):
    rest = [names for names in all_names(book) if names not in decided]
    return tuple(sorted(names for names in rest if not any(set(other) < set(names) for other in rest)))


def no_name_sets(book):
    """Values that are no sets of names of ties of the book."""
    names = book.names
    near = [list(names), tuple(reversed(names)), names + names, names[:1] * 2, (*names, "zz"), ("maybe",), set(names),
            dict.fromkeys(names), names[0], None, (None,), (names,), ((names[0],),), (0,), "".join(names)]
    right = all_names(book)
    return [value for value in near + strange_values() if not any(same(value, told) for told in right)]


class Examples(unittest.TestCase, Checks):
    def test_the_examples_of_stage_15(self):
        self.assertEqual(
            [greatest_decided(SPLIT), least_undecided(SPLIT), greatest_decided(HORN), least_undecided(HORN),
             needed_for(SPLIT, ("g", "no", "yes"))],
            [(('g', 'no'), ('g', 'yes'), ('no', 'yes')), (('g', 'no', 'yes'),), (('if', 'nand', 'no', 'yes'),), (),
             ('g', 'no', 'yes')])
        self.assertEqual(
            [greatest_decided(HORN + XOR), least_undecided(HORN + XOR),
             [name for name, tree in spoilers_of(SPLIT, ("g", "no"))], greatest_decided(RING)],
            [(('if', 'nand', 'no', 'yes'),), (('xor',),), ['yes'], ((),)])

    def test_the_place_of_the_functions(self):
        for name in ("greatest_decided", "least_undecided", "spoilers_of", "is_spoilers_of", "needed_for"):
            self.assertEqual(getattr(module, name).__module__, "setchooser.more.dropped")


class Errors(unittest.TestCase, Checks):
    def test_wrong_arguments(self):
        book = (no_books, InvalidBook)
        self.refuses(greatest_decided, (SPLIT,), [book])
        self.refuses(least_undecided, (SPLIT,), [book])
        for one, names in ((SPLIT, ("g", "no")), (MIXED, HORN.names)):
            wrong = (lambda: no_name_sets(one), InvalidOperation)
            self.refuses(spoilers_of, (one, names), [book, wrong])
            self.refuses(is_spoilers_of, (one, names, ()), [book, wrong, None])
        self.refuses(needed_for, (SPLIT, SPLIT.names), [book, (lambda: no_name_sets(SPLIT), InvalidOperation)])

    def test_sets_that_are_not_greatest_decided_ones(self):
        for book in (SPLIT, MIXED, NONE, RING, STEP, Book(2, {})):
            right = greatest(decided_by_force(book))
            for names in all_names(book):
                if names in right:
                    self.assertIs(is_spoilers_of(book, names, spoilers_of(book, names)), True)
                else:
                    self.fails(InvalidOperation, spoilers_of, book, names)
                    for value in (None, (), (("g", ()),)):
                        self.fails(InvalidOperation, is_spoilers_of, book, names, value)
        # Not decided, and decided but in a greater one.
        self.fails(InvalidOperation, spoilers_of, SPLIT, ("g", "no", "yes"))
        self.fails(InvalidOperation, spoilers_of, SPLIT, ("g",))
        self.fails(InvalidOperation, spoilers_of, HORN, ())

    def test_needed_for_decided_sets(self):
        for book in (SPLIT, MIXED, NONE, RING, STEP, Book(2, {})):
            decided = decided_by_force(book)
            for names in all_names(book):
                if names in decided:
                    self.fails(InvalidOperation, needed_for, book, names)
        self.fails(InvalidOperation, needed_for, RING, ())


class Sets(unittest.TestCase):
    def check(self, book):
        decided = decided_by_force(book)
        self.assertTrue(same(greatest_decided(book), greatest(decided)))
        self.assertTrue(same(least_undecided(book), least_of(book, decided)))
        self.assertEqual(greatest_decided(book) == (book.names,), is_decided(book))
        for names in all_names(book):
            if names not in decided:
                # By all smaller sets: those that stand in each least undecided one that lies in the set.
                inner = [other for other in least_undecided(book) if set(other) <= set(names)]
                needed = tuple(name for name in names if all(name in other for other in inner))
                self.assertTrue(same(needed_for(book, names), needed))
                for name in names:
                    less = tuple(other for other in names if other != name)
                    self.assertIs(less in decided, name in needed)
        return len(greatest(decided)), len(least_of(book, decided))

    def test_small_books_by_force(self):
        source = random.Random(101)
        told = []
        for _ in range(160):
            size = source.choice((1, 2, 2, 2, 2, 2, 2))
            chance = source.choice((0.3, 0.5, 0.65))
            told.append(self.check(random_book(source, size, source.randint(0, 6), chance, places=(1, 2, 2, 3))))
        self.assertGreater(sum(many > 1 for many, least in told), 12)
        self.assertGreater(sum(least > 1 for many, least in told), 8)
        self.assertGreater(len(set(told)), 5)

    def test_eight_ties_by_force(self):
        source = random.Random(102)
        for chance in (0.4, 0.6):
            self.check(random_book(source, 2, 8, chance, places=(1, 2, 3)))

    def test_books_of_three_values_by_force(self):
        source = random.Random(103)
        told = [self.check(random_book(source, 3, source.randint(2, 5), 0.4, places=(1, 2, 2))) for _ in range(8)]
        self.assertGreater(max(told), (1, 0))

    def test_books_of_four_values_by_single_decisions(self):
        source = random.Random(104)
        kinds = set()
        for chance in (0.1, 0.3, 0.5, 0.7):
            book = random_book(source, 4, 4, chance, places=(2, 2, 2, 3))
            decided = [names for names in all_names(book) if is_decided(book.only(names))]
            self.assertEqual(greatest_decided(book), greatest(decided))
            self.assertEqual(least_undecided(book), least_of(book, decided))
            kinds.add(len(greatest(decided)))
        self.assertGreater(len(kinds), 1)

    def test_eight_large_ties_of_four_values(self):
        source = random.Random(105)
        for chance in (0.3, 0.6):
            book = random_book(source, 4, 8, chance, places=(3,))
            told, spoiling = greatest_decided(book), least_undecided(book)
            self.assertEqual(told == (book.names,), is_decided(book))
            for names in told:
                self.assertIs(is_decided(book.only(names)), True)
                # Each set that lies in no greatest decided one has a least undecided one in it, and no other.
            for names in all_names(book):
                within = any(set(names) <= set(other) for other in told)
                self.assertIs(within, not any(set(other) <= set(names) for other in spoiling))
            for names in spoiling[:1]:
                self.assertIs(is_decided(book.only(names)), False)
                self.assertEqual(needed_for(book, names), names)

    def test_books_without_ties_and_decided_ones(self):
        for size in (1, 2, 3, 4):
            self.assertEqual((greatest_decided(Book(size, {})), least_undecided(Book(size, {}))), (((),), ()))
            self.assertEqual(spoilers_of(Book(size, {}), ()), ())
        for book in (HORN, STEP, Book(4, {"never": (3, ())})):
            self.assertEqual((greatest_decided(book), least_undecided(book)), ((book.names,), ()))
            self.assertEqual(spoilers_of(book, book.names), ())
            self.assertIs(is_spoilers_of(book, book.names, ()), True)

    def test_books_of_which_no_single_tie_is_decided(self):
        for book in (RING, XOR, NONE):
            self.assertEqual(greatest_decided(book), ((),))
            self.assertEqual(least_undecided(book), tuple((name,) for name in book.names))
            self.assertEqual([name for name, tree in spoilers_of(book, ())], list(book.names))
        self.assertEqual(needed_for(NONE, ("nae",)), ("nae",))
        self.assertEqual(needed_for(NONE, ("nae", "ne")), ())

    def test_greatest_sets_of_unlike_sizes(self):
        # Without "ne" all other ones stay; with it none does.
        one = Book(2, {"ne": (2, ((0, 1), (1, 0)))})
        book = Book(2, {"a": (3, SPLIT["g"]), "no": (1, ((0,),)), "yes": (1, ((1,),)), "z": (2, ((0, 0), (1, 1)))})
        self.assertEqual(greatest_decided(book), (("a", "no", "z"), ("a", "yes", "z"), ("no", "yes", "z")))
        sizes = set()
        source = random.Random(106)
        for _ in range(60):
            told = greatest_decided(random_book(source, 2, 5, 0.5))
            sizes.add(len({len(names) for names in told}))
        self.assertIn(2, sizes)
        self.assertEqual(greatest_decided(one), ((),))

    def test_fewer_ties_stay_decided(self):
        source = random.Random(107)
        for _ in range(30):
            book = random_book(source, 2, 4, 0.6)
            for names in greatest_decided(book):
                for many in range(len(names) + 1):
                    for fewer in itertools.combinations(names, many):
                        self.assertIsNotNone(chooser(book.only(fewer)))


class Spoilers(unittest.TestCase):
    def right(self, book, names, value):
        """Whether the value is right, by the words of the document."""
        outside = [name for name in book.names if name not in names]
        if not isinstance(value, tuple) or len(value) != len(outside):
            return False
        for name, pair in zip(outside, value):
            one = book.only(tuple(sorted((*names, name))))
            if not isinstance(pair, tuple) or len(pair) != 2 or not same(pair[0], name):
                return False
            if not is_tree(one, set_net(one), pair[1]):
                return False
        return True

    def test_each_tree_is_one_of_the_ties_and_that_one_alone(self):
        source = random.Random(108)
        trees = 0
        for _ in range(60):
            book = random_book(source, source.choice((2, 3)), source.randint(1, 5), 0.4, places=(1, 2, 2, 3))
            for names in greatest_decided(book):
                value = spoilers_of(book, names)
                self.assertTrue(self.right(book, names, value))
                self.assertIs(is_spoilers_of(book, names, value), True)
                trees += len(value)
        self.assertGreater(trees, 30)

    def test_right_values_that_the_package_did_not_make(self):
        one = SPLIT
        for book, names in ((SPLIT, ("g", "no")), (RING, ()), (XOR, ()), (NONE.only(("one",)), ())):
            (name, tree), = spoilers_of(book, names)
            self.assertIs(is_case_paper(book, set_net(book), ("none", tree)), True)
            wide = self.wide_tree(book, set_net(book), len(book.sets) - 1, {})
            self.assertNotEqual(wide, tree)
            self.assertIs(is_spoilers_of(book, names, ((name, wide),)), True)
        for names, other in ((("g", "no"), "yes"), (("g", "yes"), "no"), (("no", "yes"), "g")):
            self.assertIs(is_spoilers_of(one, names, ((other, book_paper(one)[1]),)), True)
            self.assertIs(is_spoilers_of(one, names, ((other, case_paper(one, set_net(one))[1]),)), True)

    def wide_tree(self, book, net, unknown, values):
        """A case tree that asks the unknowns from the last one to the first one."""
        for name, unknowns in net.ties:
            if not any(all(values.get(at, value) == value for at, value in zip(unknowns, row)) for row in book[name]):
                return ((name, unknowns),)
        items = (unknown,)
        for value in range(book.size):
            items += self.wide_tree(book, net, unknown - 1, {**values, unknown: value})
        return items

    def test_values_near_right_ones(self):
        value = spoilers_of(NONE, ())
        self.assertEqual([name for name, tree in value], ["nae", "ne", "one"])
        trees = dict(value)
        near = [value[:2], value[1:], value[::-1], value + value[:1], list(value), (), None, dict(value),
                (value[0], value[0], value[2]), (value[0], value[2], value[1]), (*value, ("xor", trees["ne"])),
                (list(value[0]), *value[1:]), ((*value[0], ()), *value[1:]), (value[0][:1], *value[1:]),
                ((None, trees["nae"]), *value[1:]), (("ne", trees["ne"]), *value[1:]),
                # Trees of other nets than that of the one tie.
                (("nae", trees["ne"]), *value[1:]), (value[0], ("ne", trees["one"]), value[2]),
                (value[0], ("ne", trees["nae"]), value[2]), (("nae", ()), *value[1:]), (("nae", (0,)), *value[1:]),
                (("nae", list(trees["nae"])), *value[1:]), (("nae", trees["nae"] + trees["nae"]), *value[1:]),
                (("nae", ("none", trees["nae"])), *value[1:])]
        self.assertIs(is_spoilers_of(NONE, (), value), True)
        for wrong in near:
            self.assertIs(is_spoilers_of(NONE, (), wrong), False, wrong)
            self.assertIs(self.right(NONE, (), wrong), False)
        for wrong in strange_values():
            self.assertIs(is_spoilers_of(NONE, (), wrong), False, wrong)
            self.assertIs(is_spoilers_of(SPLIT, ("g", "no"), (("yes", wrong),)), False, wrong)
            self.assertIs(is_spoilers_of(SPLIT, ("g", "no"), ((wrong, book_paper(SPLIT)[1]),)), False, wrong)
            self.assertIs(is_spoilers_of(SPLIT, ("g", "no"), (wrong,)), False, wrong)
            self.assertIs(is_spoilers_of(HORN, HORN.names, wrong), same(wrong, ()))

    def test_trees_of_nets_with_more_or_fewer_ties(self):
        # A tree of all ties tells nothing of the last one alone if another one clashes in it.
        whole = book_paper(NONE)[1]
        self.assertTrue(is_tree(NONE, set_net(NONE), whole))
        value = spoilers_of(NONE, ())
        self.assertIs(is_spoilers_of(NONE, (), (value[0], value[1], ("one", whole))), is_tree(
            NONE.only(("one",)), set_net(NONE.only(("one",))), whole))
        names = ("if", "nand", "no", "yes")
        alone = book_paper(XOR)[1]
        self.assertEqual(XOR.sets, MIXED.sets)
        self.assertIs(is_spoilers_of(MIXED, names, (("xor", alone),)), True)
        self.assertIs(is_spoilers_of(MIXED, names, (("xor", (("xor", (1, 1)),)),)), False)
        truths = tuple(True if item == 1 and type(item) is int else item for item in alone)
        self.assertNotEqual(repr(truths), repr(alone))
        self.assertIs(is_spoilers_of(MIXED, names, (("xor", truths),)), False)

    def test_trees_that_show_it_of_nets_of_other_books(self):
        net = Net(1, (("xor", (0, 0)),))
        self.assertIs(is_case_paper(XOR, net, ("none", (0, ("xor", (0, 0)), ("xor", (0, 0))))), True)
        self.assertIs(is_spoilers_of(MIXED, HORN.names, (("xor", (0, ("xor", (0, 0)), ("xor", (0, 0)))),)), False)


if __name__ == "__main__":
    unittest.main()
