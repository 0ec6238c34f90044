"""Tests of setchooser.more.cores: stage 13 with point 13.1."""

import itertools
import random
import unittest

from helpers import (
    FORK, HORN, RING, STEP, XOR, Checks, all_fillings, all_rows, no_books, random_book, random_net, rows_where, same,
    strange_values)
from setchooser.base.books import Book
from setchooser.choose.choosers import chooser
from setchooser.choose.decided import is_decided
from setchooser.choose.setnets import set_net
from setchooser.errors import InvalidBook, InvalidOperation
from setchooser.more import cores as module
from setchooser.more.cores import (
    core, core_fold, core_values, folds, from_core, is_core, is_value_map, to_core, value_maps)

EASY = STEP.only(("upto",))
THREE = Book(3, {"xor": (2, ((0, 1), (0, 2), (1, 0), (1, 2), (2, 0), (2, 1)))})
# Each of 0 and 2 stands with 1 in either order, and 3 stands in no row.
WIDE = Book(4, {"xor": (2, rows_where(4, 2, lambda one, other: (one == 1) != (other == 1) and 3 not in (one, other)))})


def maps_by_force(one, other):
    return [values for values in itertools.product(range(other.size), repeat=one.size)
            if all(tuple(values[value] for value in row) in other[name] for name in one for row in one[name])]


def core_by_force(book):
    """The values and the fold of the core, by all sets of values."""
    told = maps_by_force(book, book)
    for many in range(1, book.size + 1):
        for kept in itertools.combinations(range(book.size), many):
            into = [fold for fold in told if set(fold) <= set(kept)]
            if into:
                return kept, [fold for fold in into if all(fold[value] == value for value in kept)][0]
    return None


def alike(source, size, book):
    """Another book that is alike in form."""
    return Book(size, {name: (book.places(name), rows_where(
        size, book.places(name), lambda *row: source.random() < 0.6)) for name in book})


def unlike(book):
    """Books that are not alike in form."""
    name = book.names[0]
    return [book.without_tie(name), book.with_tie("more", 1, ()), book.renamed({name: "other"}), Book(book.size, {}),
            book.with_tie(name, book.places(name) + 1, ())]


def no_values(size):
    """Values that are no tuples of such values."""
    near = [[0], 0, None, "0", {0: 0}, (size,), (0, size), (-1,), (True,), (0, False), (None,), ("0",), ((0,),),
            (10 ** 99,), (0, 0, -10 ** 60)]
    return near + [value for value in strange_values() if not (
        isinstance(value, tuple) and all(type(part) is int and 0 <= part < size for part in value))]


class Examples(unittest.TestCase, Checks):
    def test_the_examples_of_stage_13(self):
        self.assertEqual(
            [folds(XOR), is_core(XOR), is_core(RING), folds(STEP), len(folds(EASY)), core_values(EASY),
             core(EASY) == Book(1, {"upto": (2, ((0, 0),))}), core_fold(EASY)],
            [((0, 1), (1, 0)), True, True, ((0, 1, 2),), 10, (0,), True, (0, 0, 0)])
        self.assertEqual(
            [len(value_maps(XOR, THREE)), value_maps(THREE, XOR), is_value_map(XOR, THREE, (2, 0)), len(folds(THREE)),
             to_core(EASY, (2, 1)), from_core(EASY, (0, 0))],
            [6, (), True, 6, (0, 0), (0, 0)])
        self.fails(InvalidOperation, value_maps, XOR, RING)

    def test_the_place_of_the_functions(self):
        for name in ("is_value_map", "value_maps", "folds", "is_core", "core_values", "core", "core_fold", "to_core",
                     "from_core"):
            self.assertEqual(getattr(module, name).__module__, "setchooser.more.cores")


class Errors(unittest.TestCase, Checks):
    def test_wrong_arguments(self):
        book = (no_books, InvalidBook)
        self.refuses(is_value_map, (XOR, THREE, (2, 0)), [book, book, None])
        self.refuses(value_maps, (XOR, THREE), [book, book])
        for call in (folds, is_core, core_values, core, core_fold):
            self.refuses(call, (EASY,), [book])
        for one in (EASY, HORN, WIDE):
            self.refuses(to_core, (one, (0,)), [book, (lambda: no_values(one.size), InvalidOperation)])
            self.refuses(from_core, (one, (0,)), [book, (lambda: no_values(core(one).size), InvalidOperation)])

    def test_books_that_are_not_alike_in_form(self):
        for one in (HORN, XOR, STEP, WIDE):
            for other in unlike(one) + [RING]:
                self.fails(InvalidOperation, value_maps, one, other)
                self.fails(InvalidOperation, value_maps, other, one)
                for value in ((0,) * one.size, None, (True,)):
                    self.fails(InvalidOperation, is_value_map, one, other, value)
        for value in strange_values():
            self.fails(InvalidOperation, is_value_map, XOR, HORN, value)
            self.fails(InvalidBook, is_value_map, XOR, FORK, value)
        # Books without ties are alike in form, and so are books of other sizes with other rows.
        self.assertEqual(len(value_maps(Book(2, {}), Book(3, {}))), 9)
        self.assertEqual(value_maps(Book(2, {"a": (3, ())}), Book(1, {"a": (3, ((0, 0, 0),))})), ((0, 0),))

    def test_values_that_the_core_does_not_have(self):
        self.assertEqual(to_core(EASY, (0, 1, 2)), (0, 0, 0))
        self.fails(InvalidOperation, to_core, EASY, (3,))
        self.fails(InvalidOperation, from_core, EASY, (1,))
        self.fails(InvalidOperation, from_core, WIDE, (2,))
        self.assertEqual(from_core(WIDE, (1, 0)), (1, 0))


class Maps(unittest.TestCase):
    def test_every_value_is_judged(self):
        for value in strange_values():
            self.assertIs(is_value_map(XOR, XOR, value), any(same(value, told) for told in ((0, 1), (1, 0))))
            right = any(same(value, told) for told in ((0,), (1,)))
            self.assertIs(is_value_map(Book(1, {}), Book(2, {}), value), right)
        for value, right in (((2, 0), True), ((0, 0), False), ((0, 3), False), ((0,), False), ((0, 1, 2), False),
                             ([0, 1], False), ((0, True), False), ((False, 1), False), ((-1, 0), False), (None, False)):
            self.assertIs(is_value_map(XOR, THREE, value), right, value)

    def test_maps_by_force(self):
        source = random.Random(101)
        counts = {}
        for _ in range(200):
            one = random_book(source, source.randint(1, 4), source.randint(0, 3), source.choice((0.1, 0.3)))
            other = alike(source, source.randint(1, 4), one)
            told = maps_by_force(one, other)
            counts[min(len(told), 3)] = counts.get(min(len(told), 3), 0) + 1
            self.assertEqual(value_maps(one, other), tuple(told))
            for value in itertools.product(range(other.size), repeat=one.size):
                self.assertIs(is_value_map(one, other, value), value in told)
        self.assertGreater(min(counts.values()), 5)
        self.assertEqual(len(counts), 4)

    def test_ties_without_rows(self):
        never = Book(3, {"a": (2, ())})
        self.assertEqual(len(value_maps(never, Book(4, {"a": (2, ())}))), 64)
        self.assertEqual(value_maps(Book(2, {"a": (2, ((0, 0),))}), never), ())
        self.assertEqual(len(value_maps(never, Book(2, {"a": (2, ((0, 1),))}))), 8)

    def test_a_map_leads_fillings_to_fillings(self):
        source = random.Random(102)
        many = 0
        for _ in range(80):
            one = random_book(source, source.randint(2, 3), 2, 0.4)
            other = alike(source, source.randint(2, 3), one)
            net = random_net(source, one, 4, 4)
            led = all_fillings(other, net)
            for values in value_maps(one, other)[:5]:
                for filling in all_fillings(one, net)[:20]:
                    many += 1
                    self.assertIn(tuple(values[value] for value in filling), led)
        self.assertGreater(many, 100)


class Cores(unittest.TestCase):
    def check(self, book):
        told = maps_by_force(book, book)
        kept, fold = core_by_force(book)
        self.assertEqual(folds(book), tuple(told))
        self.assertIs(is_core(book), all(len(set(values)) == book.size for values in told))
        self.assertEqual(core_values(book), kept)
        self.assertEqual(core_fold(book), fold)
        small = core(book)
        self.assertEqual((small.size, small.names), (len(kept), book.names))
        for name in book:
            self.assertEqual(small.places(name), book.places(name))
            self.assertEqual(small[name], tuple(row for row in all_rows(len(kept), book.places(name))
                                                if tuple(kept[value] for value in row) in book[name]))
        self.assertIs(is_core(small), True)
        self.assertIs(len(kept) == book.size, is_core(book))
        self.assertEqual(core_values(small), tuple(range(len(kept))))
        every = tuple(range(book.size))
        self.assertEqual(to_core(book, every), tuple(kept.index(value) for value in fold))
        self.assertEqual(from_core(book, tuple(range(len(kept)))), kept)
        self.assertEqual(to_core(book, from_core(book, tuple(range(len(kept))))), tuple(range(len(kept))))
        self.assertIs(is_value_map(book, small, to_core(book, every)), True)
        self.assertIs(is_value_map(small, book, kept), True)
        return len(kept)

    def test_books_by_force(self):
        source = random.Random(103)
        counts = {}
        for _ in range(300):
            size = source.randint(1, 4)
            ties = source.randint(0, 3)
            book = random_book(source, size, ties, source.choice((0.2, 0.3, 0.5)), places=(1, 2, 2, 3))
            told = (size, self.check(book))
            counts[told] = counts.get(told, 0) + 1
        self.assertGreater(min(counts.values()), 1)
        self.assertEqual(set(counts), {(size, kept) for size in range(1, 5) for kept in range(1, size + 1)})

    def test_written_books(self):
        books = (HORN, XOR, RING, STEP, EASY, THREE, WIDE)
        self.assertEqual([self.check(book) for book in books], [2, 2, 3, 3, 1, 3, 2])
        self.assertEqual([self.check(Book(size, {})) for size in (1, 2, 3, 4)], [1, 1, 1, 1])
        self.assertEqual([self.check(Book(size, {"never": (3, ())})) for size in (1, 2, 3, 4)], [1, 1, 1, 1])
        self.assertEqual(self.check(Book(4, {"ne": (2, rows_where(4, 2, lambda one, other: one != other))})), 4)
        # The values that are kept need not be the first ones, nor stand side by side.
        book = Book(4, {"up": (2, ((0, 3), (1, 3), (2, 3))), "low": (1, ((1,),))})
        self.assertEqual((self.check(book), core_values(book), core_fold(book)), (2, (1, 3), (1, 1, 1, 3)))
        self.assertEqual(core(book), Book(2, {"up": (2, ((0, 1),)), "low": (1, ((0,),))}))
        self.assertEqual((to_core(book, (3, 2, 0)), from_core(book, (1, 0, 1))), ((1, 0, 0), (3, 1, 3)))

    def test_several_sets_with_the_fewest_values(self):
        # Each of the sets (0, 1), (1, 2) and so on would do, and several folds lead into the first one.
        ring = Book(4, {"near": (2, rows_where(4, 2, lambda one, other: (one - other) % 2 == 1))})
        self.assertEqual((core_values(ring), core_fold(ring)), ((0, 1), (0, 1, 0, 1)))
        self.assertIn((1, 0, 1, 0), folds(ring))
        self.assertEqual(self.check(ring), 2)
        # Value 0 is led away, so the set is not (0, 1).
        book = Book(3, {"up": (2, ((0, 2), (1, 2), (2, 1)))})
        self.assertEqual((self.check(book), core_values(book), core_fold(book)), (2, (1, 2), (1, 1, 2)))

    def test_the_first_fold_into_the_values_need_not_leave_them(self):
        # Value 0 stands where 2 does, but not in the tie of one place: it is led to 2, or to 1 with 1 and 2 turned.
        book = Book(3, {"some": (1, ((1,), (2,))), "xor": (2, ((0, 1), (1, 0), (1, 2), (2, 1)))})
        self.assertEqual(folds(book), ((0, 1, 2), (1, 2, 1), (2, 1, 2)))
        self.assertEqual((self.check(book), core_values(book), core_fold(book)), (2, (1, 2), (2, 1, 2)))
        self.assertEqual(to_core(book, (0, 1, 2)), (1, 0, 1))
        book = book.turned((1, 0, 2))
        self.assertEqual((self.check(book), core_fold(book)), (2, (0, 2, 2)))

    def test_books_of_four_values_with_ties_of_three_places(self):
        source = random.Random(104)
        every = all_rows(4, 3)
        for chance in (0.03, 0.5, 0.97):
            ties = {name: (3, tuple(row for row in every if source.random() < chance)) for name in "abcdefgh"}
            self.check(Book(4, ties))
        self.assertEqual(self.check(Book(4, {name: (3, every) for name in "abcdefgh"})), 1)
        fold = (0, 1, 1, 0)
        rows = {row for row in every if source.random() < 0.2}
        rows |= {tuple(fold[value] for value in row) for row in rows}
        self.assertIn(fold, folds(Book(4, {"t": (3, tuple(sorted(rows)))})))

    def test_they_lead_fillings_to_fillings(self):
        source = random.Random(105)
        many = 0
        for _ in range(120):
            book = random_book(source, source.randint(2, 4), source.randint(1, 3), 0.4, places=(1, 2))
            small = core(book)
            net = random_net(source, book, 4, 5)
            told, less = all_fillings(book, net), all_fillings(small, net)
            self.assertIs(bool(told), bool(less))
            for filling in told[:30]:
                many += small.size < book.size
                self.assertIn(to_core(book, filling), less)
            for filling in less[:30]:
                self.assertIn(from_core(book, filling), told)
        self.assertGreater(many, 100)

    def test_tuples_of_any_length(self):
        for book in (XOR, EASY, WIDE):
            self.assertEqual((to_core(book, ()), from_core(book, ())), ((), ()))
            self.assertEqual(to_core(book, (0,) * 100), (0,) * 100)
        self.assertEqual(to_core(WIDE, (0, 1, 2, 3)), tuple(core_fold(WIDE)))
        self.assertEqual(from_core(XOR, (1, 1, 0)), (1, 1, 0))

    def test_both_or_none_are_decided(self):
        source = random.Random(106)
        answers = {True: 0, False: 0}
        for turn in range(80):
            book = random_book(source, source.randint(2, 4), 2, 0.3, places=(2,))
            answers[is_decided(book)] += 1
            self.assertIs(is_decided(core(book)), is_decided(book))
        self.assertGreater(min(answers.values()), 5)

    def test_a_good_chooser_leads_the_sets_of_single_values_by_a_fold(self):
        for book in (HORN, STEP, EASY, WIDE.with_tie("one", 1, ((1,),))):
            table = chooser(book)
            if table is not None:
                self.assertIn(tuple(table[value,] for value in range(book.size)), folds(book))

    def test_nothing_is_changed(self):
        book = Book(3, {"upto": (2, STEP["upto"])})
        core(EASY)
        self.assertEqual(EASY, book)
        self.assertEqual(set_net(EASY), set_net(book))


if __name__ == "__main__":
    unittest.main()
