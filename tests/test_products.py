"""Tests of setchooser.more.products: stage 14 with point 14.1, and point 0.18 on products."""

import itertools
import random
import unittest

from helpers import (
    HORN, RING, STEP, XOR, Checks, all_choosers, all_fillings, all_good, least, no_books, no_choosers,
    no_integers, random_book, random_net, rows_where, same, strange_values)
from setchooser.base.books import Book
from setchooser.base.fillings import is_filling
from setchooser.base.nets import Net
from setchooser.choose.choosers import chooser, choosers, is_good
from setchooser.choose.decided import is_decided
from setchooser.errors import InvalidBook, InvalidChooser, InvalidNumber, InvalidOperation
from setchooser.more import products as module
from setchooser.more.products import chooser_of_both, pair_of, paired, parted, product, value_of

THREE = Book(3, {"xor": (2, ((0, 1), (0, 2), (1, 0), (1, 2), (2, 0), (2, 1)))})
ONLY = Book(1, {"xor": (2, ((0, 0),))})
NEVER = Book(2, {"xor": (2, ())})
FOUR = Book(4, {"xor": (2, rows_where(4, 2, lambda one, other: one != other))})
# The sizes of two books of which there is a product.
SIZES = ((1, 1), (1, 2), (2, 1), (2, 2), (1, 3), (3, 1), (1, 4), (4, 1))
CALLS = (product, pair_of, value_of, paired, parted, chooser_of_both)


def alike(source, one, other, places, chance=0.6):
    """Two books of these sizes with ties a, b and so on of so many places."""
    def book(size):
        return Book(size, {name: (many, rows_where(size, many, lambda *row: source.random() < chance))
                           for name, many in zip("abcdefgh", places)})
    return book(one), book(other)


def pair_by_force(other, value):
    return value // other.size, value % other.size


def rows_by_force(one, other, name):
    """The rows of values of the product of which both parts are rows."""
    size, places = one.size * other.size, one.places(name)
    return rows_where(size, places, lambda *row: (
        tuple(pair_by_force(other, value)[0] for value in row) in one[name]
        and tuple(pair_by_force(other, value)[1] for value in row) in other[name]))


def more_for(call, one, other):
    """Right further arguments of a function for two books, whatever their form and sizes are."""
    return {product: (), pair_of: (0,), value_of: ((0, 0),), paired: ((0,), (0,)), parted: ((0,),),
            chooser_of_both: (least(one), least(other))}[call]


class Examples(unittest.TestCase, Checks):
    def test_the_examples_of_stage_14(self):
        self.assertEqual(
            [product(XOR, XOR)["xor"], pair_of(XOR, XOR, 2), value_of(XOR, XOR, (1, 1)), product(HORN, HORN).size,
             paired(XOR, XOR, (0, 1), (1, 1)), parted(XOR, XOR, (1, 3))],
            [((0, 3), (1, 2), (2, 1), (3, 0)), (1, 0), 3, 4, (1, 3), ((0, 1), (1, 1))])
        both = chooser_of_both(HORN, HORN, chooser(HORN), chooser(HORN))
        self.assertEqual(
            [both[1, 2], both[1, 3], is_good(product(HORN, HORN), both), is_decided(product(XOR, NEVER))],
            [0, 1, True, True])
        self.fails(InvalidBook, product, XOR, THREE)

    def test_the_place_of_the_functions(self):
        for name in ("product", "pair_of", "value_of", "paired", "parted", "chooser_of_both"):
            self.assertEqual(getattr(module, name).__module__, "setchooser.more.products")


class Errors(unittest.TestCase, Checks):
    def test_wrong_arguments(self):
        books = [(no_books, InvalidBook), (no_books, InvalidBook)]
        self.refuses(product, (XOR, XOR), books)
        beyond = (lambda: no_integers() + [4, 5, 60, -1, 10 ** 59], (InvalidNumber, "value"))
        self.refuses(pair_of, (XOR, XOR, 3), books + [beyond])
        pairs = [(0, 2), (2, 0), (-1, 0), (0, -1), (0,), (0, 0, 0), [0, 0], (True, 0), (0, False), (None, 0), ("0", 0),
                 (0, 10 ** 99), ((0, 0),), {0: 0}, 0]
        wrong = pairs + [value for value in strange_values() if not any(
            same(value, pair) for pair in itertools.product((0, 1), repeat=2))]
        self.refuses(value_of, (XOR, XOR, (1, 0)), books + [(lambda: wrong, InvalidOperation)])
        tuples = (lambda: self.no_tuples(2), InvalidOperation)
        self.refuses(paired, (XOR, XOR, (0, 1), (1, 1)), books + [tuples, tuples])
        self.refuses(parted, (XOR, XOR, (0, 3)), books + [(lambda: self.no_tuples(4), InvalidOperation)])
        choosers_of = (lambda: no_choosers(XOR), InvalidChooser)
        self.refuses(chooser_of_both, (XOR, NEVER, least(XOR), least(XOR)), books + [choosers_of, choosers_of])

    def no_tuples(self, size):
        near = [(size,), (0, size), (-1,), (True,), (0, False), (None,), [0], [0, 1], 0, None, "01", ((0,),),
                (10 ** 99,)]
        return near + [value for value in strange_values() if not (
            isinstance(value, tuple) and all(type(part) is int and 0 <= part < size for part in value))]

    def test_the_values_of_each_book_are_its_own(self):
        one, other = Book(1, {}), Book(3, {})
        self.assertEqual(value_of(one, other, (0, 2)), 2)
        self.fails(InvalidOperation, value_of, one, other, (2, 0))
        self.assertEqual(value_of(other, one, (2, 0)), 2)
        self.fails(InvalidOperation, value_of, other, one, (0, 2))
        self.assertEqual(paired(one, other, (0, 0), (1, 2)), (1, 2))
        self.fails(InvalidOperation, paired, one, other, (0, 1), (0, 0))
        self.fails(InvalidOperation, paired, one, other, (0, 0), (0, 3))
        self.fails(InvalidOperation, paired, one, other, (1,), (3,))
        self.fails(InvalidNumber, pair_of, one, other, 3, value=3)
        self.fails(InvalidChooser, chooser_of_both, one, other, least(other), least(other))
        self.fails(InvalidChooser, chooser_of_both, one, other, least(one), least(one))

    def test_tuples_of_unlike_lengths(self):
        for first, second in (((), (0,)), ((0,), ()), ((0, 1), (1,)), ((0,), (1, 1, 1))):
            self.fails(InvalidOperation, paired, XOR, XOR, first, second)
            # A length is told of the parameters, so it comes ahead of a product that is too large.
            self.fails(InvalidOperation, paired, XOR, THREE, first, second)
        self.assertEqual(paired(XOR, XOR, (), ()), ())
        self.assertEqual(parted(XOR, XOR, ()), ((), ()))

    def test_books_that_are_not_alike_in_form_or_too_large(self):
        unlike = [RING, HORN, STEP, Book(2, {}), XOR.with_tie("more", 1, ()), Book(2, {"xor": (1, ())}),
                  Book(2, {"xor": (3, ())}), XOR.renamed({"xor": "ne"})]
        for call in CALLS:
            for other in unlike:
                # Some of these pairs are too large as well, which comes behind.
                for one in (XOR, FOUR):
                    self.fails(InvalidOperation, call, one, other, *more_for(call, one, other))
                    self.fails(InvalidOperation, call, other, one, *more_for(call, other, one))
            for one, other in ((XOR, THREE), (THREE, XOR), (FOUR, XOR), (THREE, THREE), (FOUR, FOUR)):
                self.fails(InvalidBook, call, one, other, *more_for(call, one, other))
            for one, other in ((ONLY, FOUR), (FOUR, ONLY), (XOR, NEVER), (ONLY, ONLY)):
                call(one, other, *more_for(call, one, other))

    def test_the_errors_of_parameters_come_ahead_of_the_form_and_the_sizes(self):
        for one, other in ((XOR, RING), (XOR, THREE), (FOUR, RING)):
            many = one.size * other.size
            self.fails(InvalidNumber, pair_of, one, other, many, value=many)
            self.fails(InvalidChooser, chooser_of_both, one, other, least(other), least(other))
            self.fails(InvalidChooser, chooser_of_both, one, other, least(one), {})
        # A value of the product, though there is none.
        self.fails(InvalidBook, pair_of, XOR, THREE, 5)
        self.fails(InvalidOperation, pair_of, XOR, RING, 5)
        self.fails(InvalidOperation, value_of, XOR, THREE, (2, 0))
        self.fails(InvalidBook, value_of, XOR, THREE, (0, 2))
        self.fails(InvalidOperation, paired, XOR, THREE, (2,), (0,))
        self.fails(InvalidBook, paired, XOR, THREE, (0,), (2,))
        self.fails(InvalidOperation, parted, XOR, THREE, (6,))
        self.fails(InvalidBook, parted, XOR, THREE, (5,))


class Products(unittest.TestCase):
    def test_rows_by_force(self):
        source = random.Random(91)
        for sizes in SIZES * 4:
            one, other = alike(source, *sizes, (1, 2, 3, source.randint(1, 3)))
            both = product(one, other)
            self.assertEqual((both.size, both.names), (one.size * other.size, one.names))
            for name in both:
                self.assertEqual(both.places(name), one.places(name))
                self.assertTrue(same(both[name], rows_by_force(one, other, name)))

    def test_books_without_ties_and_ties_without_rows(self):
        self.assertEqual(product(Book(2, {}), Book(2, {})), Book(4, {}))
        self.assertEqual(product(Book(1, {}), Book(3, {})), Book(3, {}))
        self.assertEqual(product(XOR, NEVER), Book(4, {"xor": (2, ())}))
        self.assertEqual(product(NEVER, XOR), Book(4, {"xor": (2, ())}))
        self.assertEqual(product(ONLY, FOUR), FOUR)
        self.assertEqual(product(FOUR, ONLY), FOUR)

    def test_the_product_is_not_the_same_in_both_orders(self):
        upto = Book(2, {"t": (2, ((0, 0), (0, 1), (1, 1)))})
        least_pair = Book(2, {"t": (2, ((0, 0),))})
        self.assertEqual(product(upto, least_pair)["t"], ((0, 0), (0, 2), (2, 2)))
        self.assertEqual(product(least_pair, upto)["t"], ((0, 0), (0, 1), (1, 1)))

    def test_nothing_is_changed(self):
        first, second = chooser(HORN), chooser(HORN)
        chooser_of_both(HORN, HORN, first, second)[(0,)] = 3
        self.assertEqual((first, second), (chooser(HORN), chooser(HORN)))


class Values(unittest.TestCase):
    def test_pairs_and_values_there_and_back(self):
        for one, other in ((XOR, XOR), (ONLY, FOUR), (FOUR, ONLY), (Book(1, {}), Book(3, {})), (ONLY, ONLY)):
            values = list(range(one.size * other.size))
            pairs = [pair_of(one, other, value) for value in values]
            self.assertTrue(same(pairs, list(itertools.product(range(one.size), range(other.size)))))
            self.assertTrue(same([value_of(one, other, pair) for pair in pairs], values))

    def test_tuples_there_and_back(self):
        source = random.Random(92)
        for sizes in SIZES * 5:
            one, other = Book(sizes[0], {}), Book(sizes[1], {})
            values = tuple(source.randrange(one.size * other.size) for _ in range(source.randint(0, 70)))
            first, second = parted(one, other, values)
            self.assertTrue(same([first, second], [
                tuple(pair_of(one, other, value)[0] for value in values),
                tuple(pair_of(one, other, value)[1] for value in values)]))
            self.assertTrue(same(paired(one, other, first, second), values))

    def test_fillings_are_the_pairs_of_fillings(self):
        source = random.Random(93)
        counts = {True: 0, False: 0}
        for sizes in SIZES * 12:
            one, other = alike(source, *sizes, (1, 2, 3), source.choice((0.4, 0.6, 0.8)))
            net = random_net(source, one, source.randint(0, 3), source.randint(0, 4))
            told = [paired(one, other, first, second)
                    for first in all_fillings(one, net) for second in all_fillings(other, net)]
            self.assertEqual(all_fillings(product(one, other), net), sorted(told))
            counts[bool(told)] += 1
        self.assertGreater(min(counts.values()), 15)
        both = product(XOR, XOR)
        net = Net(3, (("xor", (0, 1)), ("xor", (1, 2))))
        self.assertIs(is_filling(both, net, paired(XOR, XOR, (0, 1, 0), (1, 0, 1))), True)
        self.assertIs(is_filling(both, net, paired(XOR, XOR, (0, 1, 0), (1, 0, 0))), False)


class Choosers(unittest.TestCase):
    def parts_of(self, other, taken):
        pairs = [pair_by_force(other, value) for value in taken]
        return tuple(sorted({pair[0] for pair in pairs})), tuple(sorted({pair[1] for pair in pairs}))

    def check(self, one, other, first, second):
        both = product(one, other)
        table = chooser_of_both(one, other, first, second)
        self.assertEqual(list(table), list(both.sets))
        for taken in both.sets:
            ones, others = self.parts_of(other, taken)
            self.assertTrue(same(table[taken], first[ones] * other.size + second[others]))
        return table

    def test_the_chooser_leads_the_parts_of_each_set(self):
        source = random.Random(94)
        for sizes in SIZES:
            one, other = Book(sizes[0], {}), Book(sizes[1], {})
            for _ in range(20):
                # Good or not, and told in any order of the sets.
                tables = [{taken: source.randrange(book.size) for taken in source.sample(book.sets, len(book.sets))}
                          for book in (one, other)]
                self.check(one, other, *tables)
        for first, second in itertools.product(all_choosers(XOR), repeat=2):
            self.check(XOR, NEVER, first, second)

    def test_good_choosers_of_both_make_a_good_one(self):
        source = random.Random(95)
        found = 0
        for sizes in SIZES * 10:
            one, other = alike(source, *sizes, (1, 2, 3), source.choice((0.5, 0.7)))
            if max(sizes) > 2:
                pairs = [(chooser(one), chooser(other))] if chooser(one) and chooser(other) else []
            else:
                pairs = list(itertools.product(all_good(one), all_good(other)))[:12]
            for first, second in pairs:
                found += 1
                self.assertIs(is_good(product(one, other), self.check(one, other, first, second)), True)
        self.assertGreater(found, 60)
        for first, second in itertools.product(choosers(HORN), repeat=2):
            self.assertIs(is_good(product(HORN, HORN), chooser_of_both(HORN, HORN, first, second)), True)

    def test_a_chooser_that_is_not_good_can_make_one_that_is_not(self):
        bad = {**chooser(HORN), (1,): 0}
        self.assertIs(is_good(product(HORN, HORN), self.check(HORN, HORN, chooser(HORN), bad)), False)
        self.assertIs(is_good(product(HORN, HORN), self.check(HORN, HORN, bad, chooser(HORN))), False)

    def test_a_product_can_be_decided_though_one_book_is_not(self):
        self.assertEqual([is_decided(XOR), is_decided(NEVER), is_decided(product(XOR, NEVER))], [False, True, True])
        self.assertIs(is_decided(product(NEVER, XOR)), True)
        # So it can be though neither is: no row of the one goes with a row of the other.
        one = XOR.with_tie("other", 2, ())
        other = Book(2, {"other": (2, XOR["xor"]), "xor": (2, ())})
        self.assertEqual([is_decided(one), is_decided(other), is_decided(product(one, other))], [False, False, True])
        self.assertIs(is_decided(product(XOR, XOR)), False)


if __name__ == "__main__":
    unittest.main()
