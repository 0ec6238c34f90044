"""Tests of setchooser.more.joins: stage 10 with points 10.1 and 10.2."""

import functools
import itertools
import random
import unittest

from helpers import (
    FORK, HORN, RING, STEP, XOR, Checks, all_choosers, all_rows, all_shadows, least, no_books, no_choosers,
    random_book, rows_where, same, strange_values)
from setchooser.base.books import Book
from setchooser.choose.choosers import chooser, does_keep, is_good, shadows
from setchooser.choose.setnets import chooser_of
from setchooser.errors import InvalidBook, InvalidChooser, InvalidOperation
from setchooser.more import joins as module
from setchooser.more.joins import good_joins, good_orders, is_join, join_chooser, join_of, order_chooser, order_of

FLAT = ((0, 0, 0), (0, 1, 0), (0, 0, 2))


def is_such_join(size, table):
    """Whether a table of the right form is a join, by the words of 10.1."""
    values = range(size)
    return (all(table[one][one] == one for one in values)
            and all(table[one][two] == table[two][one] for one, two in itertools.product(values, repeat=2))
            and all(table[table[one][two]][three] == table[one][table[two][three]]
                    for one, two, three in itertools.product(values, repeat=3)))


@functools.lru_cache(maxsize=None)
def all_joins(size):
    """All joins, ascending: by a check of all tables, of four values of those that are alike in both orders."""
    if size < 4:
        rows = itertools.product(range(size), repeat=size)
        return [table for table in itertools.product(list(rows), repeat=size) if is_such_join(size, table)]
    pairs = list(itertools.combinations(range(size), 2))
    tables = []
    for told in itertools.product(range(size), repeat=len(pairs)):
        told = dict(zip(pairs, told))
        tables.append(tuple(tuple(one if one == two else told[min(one, two), max(one, two)] for two in range(size))
                            for one in range(size)))
    return sorted(table for table in tables if is_such_join(size, table))


def chooser_of_order(book, order):
    return {taken: min(taken, key=order.index) for taken in book.sets}


def chooser_of_join(book, join):
    """The chooser of a join, by the values of each set put together from the last one on."""
    told = {}
    for taken in book.sets:
        value = taken[-1]
        for other in reversed(taken[:-1]):
            value = join[other][value]
        told[taken] = value
    return told


def join_of_order(order):
    return tuple(tuple(min(one, two, key=order.index) for two in range(len(order))) for one in range(len(order)))


class Examples(unittest.TestCase):
    def test_the_examples_of_stage_10(self):
        self.assertEqual(
            [order_chooser(STEP, (0, 2, 1))[1, 2], join_chooser(STEP, FLAT)[1, 2], is_join(HORN, ((0, 0), (0, 1))),
             is_join(HORN, ((0, 0), (1, 1)))],
            [2, 0, True, False])
        self.assertEqual(
            [good_orders(HORN), good_orders(STEP), good_joins(HORN), join_of(HORN, chooser(HORN)),
             order_of(HORN, chooser(HORN))],
            [((0, 1),), ((0, 1, 2), (0, 2, 1), (2, 0, 1), (2, 1, 0)), (((0, 0), (0, 1)),), ((0, 0), (0, 1)), (0, 1)])
        self.assertEqual(
            [join_of(XOR, chooser_of(XOR, (0, 0, 0))), order_of(STEP, join_chooser(STEP, FLAT)),
             join_of(STEP, join_chooser(STEP, FLAT)) == FLAT],
            [None, None, True])

    def test_the_place_of_the_functions(self):
        for name in ("order_chooser", "join_chooser", "is_join", "good_orders", "good_joins", "order_of", "join_of"):
            self.assertEqual(getattr(module, name).__module__, "setchooser.more.joins")


def no_orders(book):
    near = [tuple(range(book.size)) + (0,), tuple(range(book.size - 1)), list(range(book.size)), (0,) * (book.size + 1),
            tuple(range(1, book.size + 1)), tuple(range(-1, book.size - 1)), (tuple(range(book.size)),),
            tuple(value == 1 if value < 2 else value for value in range(book.size)), {0: 0, 1: 1, 2: 2},
            tuple(range(book.size - 1)) + (None,), tuple(range(book.size - 1)) + (10 ** 99,)]
    if book.size > 1:
        near += [(0,) * book.size, (1,) * book.size]
    return near + [value for value in strange_values()
                   if not any(same(value, order) for order in itertools.permutations(range(book.size)))]


def no_joins(book):
    """Values that are no joins of a book of three values, some of them nearly."""
    near = [list(FLAT), (FLAT,), FLAT[:2], FLAT + ((0, 0, 0),), tuple(row[:2] for row in FLAT), tuple(map(list, FLAT)),
            tuple(row + (0,) for row in FLAT), dict(enumerate(FLAT)), sum(FLAT, ()),
            # Unlike in the two orders of 1 and 2 alone, though it is the same in each grouping.
            ((0, 0, 0), (0, 1, 1), (0, 2, 2)),
            # Not the value itself for 2 and 2 alone.
            ((0, 0, 0), (0, 1, 0), (0, 0, 0)), ((0, 0, 0), (0, 1, 1), (0, 1, 1)),
            # Not the same in each grouping, of 0, 0 and 1, and of 0, 1 and 2.
            ((0, 2, 0), (2, 1, 1), (0, 1, 2)), ((0, 0, 2), (0, 1, 1), (2, 1, 2))]
    for one, two in itertools.product(range(3), repeat=2):
        for value in (3, -1, None, "0", (0,), bool(FLAT[one][two]), 10 ** 99):
            if not same(value, FLAT[one][two]):
                rows = [list(row) for row in FLAT]
                rows[one][two] = value
                near.append(tuple(map(tuple, rows)))
    return near + [value for value in strange_values()]


class Errors(unittest.TestCase, Checks):
    def test_wrong_arguments(self):
        book = (no_books, InvalidBook)
        for one in (Book(1, {}), HORN, STEP, Book(4, {})):
            good = tuple(range(one.size))
            self.refuses(order_chooser, (one, good), [book, (lambda: no_orders(one), InvalidOperation)])
        self.refuses(join_chooser, (STEP, FLAT), [book, (lambda: no_joins(STEP), InvalidOperation)])
        self.refuses(is_join, (STEP, FLAT), [book, None])
        self.refuses(good_orders, (STEP,), [book])
        self.refuses(good_joins, (STEP,), [book])
        for call in (order_of, join_of):
            for one in (HORN, STEP):
                self.refuses(call, (one, least(one)), [book, (lambda: no_choosers(one), InvalidChooser)])
            self.fails(InvalidChooser, call, STEP, least(HORN))
            self.fails(InvalidChooser, call, HORN, least(STEP))

    def test_orders_and_joins_of_other_books(self):
        self.fails(InvalidOperation, order_chooser, HORN, (0, 1, 2))
        self.fails(InvalidOperation, order_chooser, STEP, (1, 0))
        self.fails(InvalidOperation, join_chooser, HORN, FLAT)
        self.fails(InvalidOperation, join_chooser, STEP, ((0, 0), (0, 1)))


class Judge(unittest.TestCase):
    def test_every_value_is_judged(self):
        joins = {size: all_joins(size) for size in (1, 2, 3)}
        for value in strange_values():
            for book in (Book(1, {}), HORN, STEP):
                self.assertIs(is_join(book, value), any(same(value, join) for join in joins[book.size]))
            self.assertIs(is_join(HORN, ((0, 0), value)), same(value, (0, 1)))
            self.assertIs(is_join(HORN, ((0, 0), (0, value))), same(value, 1))
            self.assertIs(is_join(HORN, ((0, 1), (value, 1))), same(value, 1))

    def test_values_near_joins(self):
        self.assertIs(is_join(STEP, FLAT), True)
        for value in no_joins(STEP):
            self.assertIs(is_join(STEP, value), False, value)

    def test_tables_that_fail_one_law_alone(self):
        values = range(3)
        laws = {}
        for told in itertools.product(values, repeat=9):
            table = (told[:3], told[3:6], told[6:])
            itself = all(table[one][one] == one for one in values)
            alike = all(table[one][two] == table[two][one] for one in values for two in values)
            grouped = all(table[table[one][two]][three] == table[one][table[two][three]]
                          for one in values for two in values for three in values)
            law = (itself, alike, grouped)
            laws[law] = laws.get(law, 0) + 1
            if laws[law] < 40:
                self.assertIs(is_join(STEP, table), all(law), (table, law))
        for law in ((False, True, True), (True, False, True), (True, True, False), (True, True, True)):
            self.assertGreater(laws[law], 5)

    def test_truths_in_the_place_of_integers(self):
        self.assertIs(is_join(HORN, ((0, 0), (0, 1))), True)
        for value in (((False, 0), (0, 1)), ((0, False), (0, 1)), ((0, 0), (False, 1)), ((0, 0), (0, True))):
            self.assertIs(is_join(HORN, value), False)

    def test_tables_of_four_values(self):
        source = random.Random(71)
        book = Book(4, {})
        joins = all_joins(4)
        for join in joins:
            self.assertIs(is_join(book, join), True)
        for _ in range(300):
            rows = [list(row) for row in source.choice(joins)]
            one, two, value = source.randrange(4), source.randrange(4), source.randrange(4)
            rows[one][two] = value
            if source.random() < 0.7:
                rows[two][one] = value
            table = tuple(map(tuple, rows))
            self.assertIs(is_join(book, table), is_such_join(4, table))


class Choosers(unittest.TestCase):
    def test_choosers_of_all_orders(self):
        for size in (1, 2, 3, 4):
            book = Book(size, {})
            for order in itertools.permutations(range(size)):
                table = order_chooser(book, order)
                self.assertEqual(table, chooser_of_order(book, order))
                self.assertEqual(tuple(table), book.sets)
                self.assertEqual(order_of(book, table), order)
                # It is the chooser of the join that tells the value that stands first.
                self.assertEqual(join_chooser(book, join_of_order(order)), table)
                self.assertEqual(join_of(book, table), join_of_order(order))

    def test_choosers_of_all_joins(self):
        for size in (1, 2, 3, 4):
            book = Book(size, {})
            orders = {join_of_order(order): order for order in itertools.permutations(range(size))}
            for join in all_joins(size):
                table = join_chooser(book, join)
                self.assertEqual(table, chooser_of_join(book, join))
                self.assertEqual(tuple(table), book.sets)
                self.assertEqual(join_of(book, table), join)
                self.assertEqual(order_of(book, table), orders.get(join))

    def test_choosers_that_come_of_none(self):
        for book in (Book(1, {}), HORN, STEP):
            joins = {tuple(chooser_of_join(book, join).values()): join for join in all_joins(book.size)}
            orders = {tuple(chooser_of_order(book, order).values()): order
                      for order in itertools.permutations(range(book.size))}
            for table in all_choosers(book):
                self.assertEqual(join_of(book, table), joins.get(tuple(table.values())))
                self.assertEqual(order_of(book, table), orders.get(tuple(table.values())))
        # The pairs tell a join, but the set of all values is led elsewhere.
        table = {**join_chooser(STEP, FLAT), (0, 1, 2): 1}
        self.assertIsNone(join_of(STEP, table))
        self.assertIsNone(order_of(STEP, {**order_chooser(STEP, (2, 0, 1)), (0, 1, 2): 0}))
        self.assertIsNone(join_of(STEP, {**join_chooser(STEP, FLAT), (1,): 0}))
        # Each pair is led to one of its values, but they go round.
        self.assertIsNone(order_of(STEP, {**least(STEP), (0, 2): 2}))
        self.assertIsNone(join_of(STEP, {**least(STEP), (0, 2): 2}))

    def test_choosers_of_four_values_that_come_of_none(self):
        source = random.Random(72)
        book = Book(4, {})
        joins = {tuple(chooser_of_join(book, join).values()): join for join in all_joins(4)}
        for join in all_joins(4):
            table = join_chooser(book, join)
            taken = source.choice(book.sets)
            other = {**table, taken: source.randrange(4)}
            self.assertEqual(join_of(book, other), joins.get(tuple(other.values())))
            self.assertIs(order_of(book, other) is not None, other in [
                chooser_of_order(book, order) for order in itertools.permutations(range(4))])

    def test_the_order_of_a_dict_has_no_effect(self):
        table = dict(reversed(list(join_chooser(STEP, FLAT).items())))
        self.assertEqual(join_of(STEP, table), FLAT)
        self.assertEqual(order_of(HORN, {(1,): 1, (0, 1): 1, (0,): 0}), (1, 0))

    def test_a_chooser_of_a_join_by_single_values_and_unions(self):
        for book in (HORN, STEP):
            for table in all_choosers(book):
                right = all(table[value,] == value for value in range(book.size)) and all(
                    table[tuple(sorted({*one, *two}))] == table[tuple(sorted({table[one], table[two]}))]
                    for one in book.sets for two in book.sets)
                self.assertIs(join_of(book, table) is not None, right)


class Good(unittest.TestCase):
    def check(self, book):
        told = [(shadows(book, name), set(book[name])) for name in book]

        def keeps_all(table):
            return all(tuple(table[taken] for taken in shadow) in rows for found, rows in told for shadow in found)
        orders = tuple(order for order in itertools.permutations(range(book.size))
                       if keeps_all(chooser_of_order(book, order)))
        joins = tuple(join for join in all_joins(book.size) if keeps_all(chooser_of_join(book, join)))
        self.assertTrue(all(is_good(book, chooser_of_join(book, join)) for join in joins[:3]))
        self.assertEqual(good_orders(book), orders)
        self.assertEqual(good_joins(book), joins)
        return len(orders), len(joins)

    def test_books_of_one_to_three_values(self):
        source = random.Random(73)
        counts = {}
        for _ in range(120):
            book = random_book(source, source.randint(1, 3), source.randint(0, 3), source.choice((0.5, 0.7, 0.9)))
            told = self.check(book)
            counts[told] = counts.get(told, 0) + 1
        self.assertGreater(len(counts), 8)

    def test_books_without_ties_have_all(self):
        for size, orders, joins in ((1, 1, 1), (2, 2, 2), (3, 6, 9), (4, 24, 76)):
            self.assertEqual(self.check(Book(size, {})), (orders, joins))
            self.assertEqual(self.check(Book(size, {"never": (2, ())})), (orders, joins))
            same_values = Book(size, {"same": (3, tuple((value,) * 3 for value in range(size)))})
            self.assertEqual(self.check(same_values), (orders, joins))

    def test_written_books(self):
        self.assertEqual((self.check(HORN), self.check(XOR), self.check(RING)), ((1, 1), (0, 0), (0, 0)))
        self.assertEqual(good_joins(HORN.turned((1, 0))), (((0, 1), (1, 1)),))
        self.assertEqual(good_orders(HORN.turned((1, 0))), ((1, 0),))
        # Joins that come of no order.
        book = Book(3, {"flat": (3, rows_where(3, 3, lambda one, two, last: last == FLAT[one][two]))})
        self.assertEqual(self.check(book), (0, 1))
        self.assertEqual(good_joins(book), (FLAT,))

    def test_books_of_four_values(self):
        source = random.Random(74)
        for join in source.sample(all_joins(4), 4):
            rows = rows_where(4, 3, lambda one, two, last: last == join[one][two])
            book = Book(4, {"join": (3, rows), "all": (3, all_rows(4, 3))})
            self.assertIn(join, good_joins(book))
            self.check(book)
        for chance in (0.9, 0.97):
            self.check(Book(4, {name: (3, tuple(row for row in all_rows(4, 3) if source.random() < chance))
                                for name in "ab"}))

    def test_a_join_keeps_a_tie_just_if_any_two_rows_make_a_row(self):
        source = random.Random(75)
        answers = {True: 0, False: 0}
        for _ in range(100):
            book = random_book(source, source.randint(2, 3), 1, source.choice((0.3, 0.6)))
            rows = book["a"]
            for join in all_joins(book.size):
                made = all(tuple(join[one][two] for one, two in zip(row, other)) in rows
                           for row in rows for other in rows)
                answers[made] += 1
                self.assertIs(does_keep(book, join_chooser(book, join), "a"), made)
                if len(rows) < 8:
                    table = chooser_of_join(book, join)
                    self.assertIs(all(tuple(table[taken] for taken in shadow) in rows for shadow in all_shadows(rows)),
                                  made)
        self.assertGreater(min(answers.values()), 40)

    def test_nothing_is_changed(self):
        book = Book(2, {name: (HORN.places(name), HORN[name]) for name in HORN})
        self.assertEqual(good_joins(HORN), good_joins(HORN))
        self.assertEqual((HORN, FORK.size), (book, 3))


if __name__ == "__main__":
    unittest.main()
