"""Tests of setchooser.choose.choosers: points 0.11, 0.12, 0.14, 0.17 to 0.19 and stage 6."""

import itertools
import random
import unittest

from helpers import (
    FORK, HORN, RING, STEP, XOR, Checks, all_choosers, all_fillings, all_good, all_rows, all_shadows, least, no_books,
    no_choosers, no_names_of, random_book, random_net, rows_where, same, strange_values, told_by_rows)
from setchooser.base.books import Book
from setchooser.base.nets import Net
from setchooser.choose import choosers as module
from setchooser.choose.choosers import (
    MAX_CHOOSERS, chooser, choosers, does_keep, is_good, is_shadow, shadows)
from setchooser.errors import InvalidBook, InvalidChooser, TooMany, UnknownName
from setchooser.strike.strikes import lists


class Examples(unittest.TestCase):
    def test_the_examples_of_stage_6(self):
        self.assertEqual(
            [shadows(XOR, "xor"), is_shadow(HORN, "nand", ((0, 1), (0,))), is_shadow(HORN, "if", ((1,), (0, 1))),
             len(shadows(STEP, "less"))],
            [(((0,), (1,)), ((0, 1), (0, 1)), ((1,), (0,))), True, False, 6])
        self.assertEqual(
            [chooser(HORN), chooser(XOR), chooser(RING), len(choosers(HORN)), chooser(STEP)],
            [{(0,): 0, (0, 1): 0, (1,): 1}, None, None, 1,
             {(0,): 0, (0, 1): 0, (0, 1, 2): 0, (0, 2): 0, (1,): 1, (1, 2): 1, (2,): 2}])

    def test_the_constant_and_the_place_of_the_functions(self):
        self.assertEqual(MAX_CHOOSERS, 200)
        for name in ("is_shadow", "shadows", "does_keep", "is_good", "chooser", "choosers"):
            self.assertEqual(getattr(module, name).__module__, "setchooser.choose.choosers")


class Errors(unittest.TestCase, Checks):
    def test_wrong_arguments(self):
        book = (no_books, InvalidBook)
        name = (lambda: no_names_of(HORN), (UnknownName, "name"))
        self.refuses(is_shadow, (HORN, "if", ()), [book, name, None])
        self.refuses(shadows, (HORN, "if"), [book, name])
        table = (lambda: no_choosers(HORN), InvalidChooser)
        self.refuses(does_keep, (HORN, least(HORN), "if"), [book, table, name])
        self.refuses(is_good, (HORN, {}), [book, None])
        self.refuses(chooser, (HORN,), [book])
        self.refuses(choosers, (HORN,), [book])

    def test_choosers_of_a_book_of_one_value(self):
        book = Book(1, {"a": (1, ((0,),))})
        self.assertIs(does_keep(book, {(0,): 0}, "a"), True)
        for value in no_choosers(book):
            self.fails(InvalidChooser, does_keep, book, value, "a")
            self.assertIs(is_good(book, value), False)

    def test_choosers_of_other_books(self):
        self.fails(InvalidChooser, does_keep, HORN, least(STEP), "if")
        self.fails(InvalidChooser, does_keep, STEP, least(HORN), "less")
        self.fails(UnknownName, does_keep, STEP, least(STEP), "if", name="if")
        for value in no_choosers(STEP):
            self.fails(InvalidChooser, does_keep, STEP, value, "less")


class Shadows(unittest.TestCase):
    def test_every_value_is_judged(self):
        for value in strange_values():
            self.assertIs(is_shadow(HORN, "if", value), same(value, ((0,), (0,))))
            self.assertIs(is_shadow(HORN, "no", value), same(value, ((0,),)))
            self.assertIs(is_shadow(HORN, "if", ((0,), value)), any(
                same(value, taken) for taken in HORN.sets))

    def test_values_near_shadows(self):
        for value in (((0,),), ((0,), (0,), (0,)), ((), ()), ((0,), ()), ((False,), (0,)), ((1, 0), (0, 1)),
                      ((0, 0), (0,)), [(0,), (0,)], ([0], [0]), ((0, 2), (0,)), ((-1,), (0,)), (0, 0), ((1,), (0,)),
                      ((0, 1), (0,)), ((1,), (0, 1)), ((0, True), (0, 1))):
            self.assertIs(is_shadow(HORN, "if", value), False, value)

    def test_a_tie_without_rows_has_no_shadows(self):
        book = Book(2, {"never": (2, ())})
        self.assertEqual(shadows(book, "never"), ())
        for value in strange_values() + [((0,), (1,)), ((0, 1), (0, 1))]:
            self.assertIs(is_shadow(book, "never", value), False)
        for table in all_choosers(book):
            self.assertIs(does_keep(book, table, "never"), True)

    def test_shadows_against_all_choices_of_rows(self):
        source = random.Random(13)
        for _ in range(60):
            size = source.randint(1, 4)
            places = source.randint(1, 3)
            every = all_rows(size, places)
            rows = tuple(sorted(source.sample(every, min(len(every), source.randint(0, 8)))))
            book = Book(size, {"t": (places, rows)})
            told = all_shadows(rows)
            self.assertEqual(shadows(book, "t"), tuple(sorted(told)))
            for value in itertools.product(book.sets, repeat=places):
                self.assertIs(is_shadow(book, "t", value), value in told)

    def test_the_lists_that_are_left_are_shadows(self):
        source = random.Random(14)
        many = 0
        for _ in range(200):
            book = random_book(source, source.randint(1, 4), source.randint(1, 4), 0.6)
            net = random_net(source, book, source.randint(1, 6), 6)
            left = lists(book, net)
            if () not in left:
                for name, unknowns in net:
                    many += 1
                    self.assertIs(is_shadow(book, name, tuple(left[unknown] for unknown in unknowns)), True)
        self.assertGreater(many, 200)


class Kept(unittest.TestCase):
    def test_does_keep_and_is_good_against_all_choices_of_rows(self):
        source = random.Random(15)
        answers = {True: 0, False: 0}
        for _ in range(40):
            book = random_book(source, source.randint(1, 2), source.randint(0, 4), source.choice((0.3, 0.6, 0.8)))
            good = all_good(book)
            for table in all_choosers(book):
                for name in book:
                    rows = set(book[name])
                    kept = all(tuple(table[taken] for taken in shadow) in rows for shadow in all_shadows(book[name]))
                    answers[kept] += 1
                    self.assertIs(does_keep(book, table, name), kept)
                self.assertIs(is_good(book, table), table in good)
        self.assertGreater(min(answers.values()), 50)

    def test_the_order_of_a_dict_has_no_effect(self):
        table = {(1,): 1, (0, 1): 0, (0,): 0}
        self.assertIs(is_good(HORN, table), True)
        self.assertIs(does_keep(HORN, table, "nand"), True)
        self.assertEqual(list(table), [(1,), (0, 1), (0,)])

    def test_values_that_are_no_good_choosers(self):
        for value in no_choosers(HORN):
            self.assertIs(is_good(HORN, value), False)
        for value in no_choosers(STEP):
            self.assertIs(is_good(STEP, value), False)
        for table in all_choosers(HORN):
            self.assertIs(is_good(HORN, table), table == {(0,): 0, (0, 1): 0, (1,): 1})
            self.assertIs(is_good(XOR, table), False)
            self.assertIs(is_good(Book(2, {}), table), True)

    def test_a_tie_of_equal_values_is_kept_by_every_chooser(self):
        for size in (1, 2, 3):
            book = Book(size, {"same": (3, tuple((value,) * 3 for value in range(size)))})
            for table in itertools.islice(all_choosers(book), 0, None, 5):
                self.assertIs(does_keep(book, table, "same"), True)

    def test_many_rows_at_once_come_to_a_row(self):
        source = random.Random(16)
        every = all_rows(3, 3)
        for _ in range(20):
            rows = tuple(sorted(source.sample(every, 7)))
            book = Book(3, {"t": (3, rows)})
            for table in (least(book), {taken: taken[-1] for taken in book.sets}, {taken: 1 for taken in book.sets}):
                kept = all(tuple(table[taken] for taken in told_by_rows(some)) in rows
                           for many in range(1, 8) for some in itertools.combinations(rows, many))
                self.assertIs(does_keep(book, table, "t"), kept)


class Choosers(unittest.TestCase, Checks):
    def check(self, book, good):
        found = choosers(book)
        self.assertIs(type(found), tuple)
        self.assertEqual(found, tuple(good))
        self.assertEqual(chooser(book), good[0] if good else None)
        for table in found:
            self.assertEqual(tuple(table), book.sets)
            self.assertIs(is_good(book, table), True)

    def test_books_of_one_and_two_values_by_force(self):
        source = random.Random(17)
        counts = {}
        for _ in range(250):
            book = random_book(source, source.randint(1, 2), source.randint(0, 5), source.choice((0.4, 0.7, 0.8, 0.9)))
            good = all_good(book)
            counts[len(good)] = counts.get(len(good), 0) + 1
            self.check(book, good)
        self.assertGreater(len(counts), 4)

    def test_all_books_of_one_tie_of_two_places(self):
        every = all_rows(2, 2)
        for many in range(5):
            for rows in itertools.combinations(every, many):
                book = Book(2, {"t": (2, rows)})
                self.check(book, all_good(book))

    def test_books_of_three_values_by_force(self):
        source = random.Random(18)
        found = 0
        while found < 8:
            book = random_book(source, 3, source.randint(1, 4), 0.3, places=(2,))
            good = all_good(book)
            if len(good) <= 200:
                found += bool(good)
                self.check(book, good)

    def test_no_ties(self):
        self.check(Book(1, {}), [{(0,): 0}])
        self.check(Book(2, {}), list(all_choosers(Book(2, {}))))
        for size in (3, 4):
            book = Book(size, {})
            self.assertEqual(chooser(book), {taken: 0 for taken in book.sets})
            self.fails(TooMany, choosers, book, limit=200)

    def test_more_than_200_choosers(self):
        book = Book(3, {"a": (1, ((0,),)), "b": (1, ((1,),)), "c": (1, ((2,),))})
        self.assertEqual(len(all_good(book)), 81)
        self.check(book, all_good(book))
        few = book.without_tie("c")
        self.assertEqual(len(all_good(few)), 243)
        self.fails(TooMany, choosers, few, limit=200)
        self.assertEqual(chooser(few), all_good(few)[0])

    def test_just_200_choosers_and_one_more(self):
        rows = ((0, 0), (0, 2), (1, 0), (1, 1), (1, 2), (2, 0), (2, 2))
        most = Book(3, {"a": (1, ((0,), (2,))), "b": (2, rows)})
        self.assertEqual(len(all_good(most)), 200)
        self.check(most, all_good(most))
        more = Book(3, {"b": (2, rows)})
        self.assertEqual(len(all_good(more)), 201)
        self.fails(TooMany, choosers, more, limit=200)
        self.assertEqual(chooser(more), all_good(more)[0])

    def test_books_of_four_values(self):
        whole = Book(4, {"all": (3, all_rows(4, 3))})
        self.assertEqual(chooser(whole), {taken: 0 for taken in whole.sets})
        self.fails(TooMany, choosers, whole, limit=200)
        self.assertIsNone(chooser(Book(4, {"ne": (2, rows_where(4, 2, lambda one, other: one != other))})))
        self.assertEqual(choosers(Book(4, {"ne": (3, rows_where(4, 3, lambda *row: len(set(row)) > 1))})), ())
        order = Book(4, {"less": (2, rows_where(4, 2, lambda one, other: one < other)),
                         "least": (3, rows_where(4, 3, lambda one, two, low: low == min(one, two)))})
        self.assertEqual(chooser(order), least(order))
        ones = {name: (1, ((value,),)) for value, name in enumerate("abcd")}
        fixed = Book(4, {**ones, "less": (2, order["less"]), "least": (3, order["least"])})
        self.check(fixed, [least(fixed)])

    def test_books_of_four_values_with_eight_ties_of_three_places(self):
        source = random.Random(19)
        every = all_rows(4, 3)
        for chance in (0.1, 0.5, 0.9, 0.97):
            book = Book(4, {name: (3, tuple(row for row in every if source.random() < chance)) for name in "abcdefgh"})
            first = chooser(book)
            if first is None:
                self.assertEqual(choosers(book), ())
            else:
                self.assertIs(is_good(book, first), True)

    def test_ties_that_are_made_to_be_kept(self):
        source = random.Random(20)
        for _ in range(25):
            size = source.choice((3, 4))
            table = {taken: source.choice(taken) for taken in Book(size, {}).sets}
            ties = {}
            for name in "abcd"[:source.randint(1, 4)]:
                rows = set(source.sample(all_rows(size, 3), source.randint(1, 4)))
                many = 0
                while many < len(rows):
                    many = len(rows)
                    told = shadows(Book(size, {"t": (3, tuple(sorted(rows)))}), "t")
                    rows |= {tuple(table[taken] for taken in shadow) for shadow in told}
                ties[name] = (3, tuple(sorted(rows)))
            book = Book(size, ties)
            self.assertIs(is_good(book, table), True)
            first = chooser(book)
            self.assertIs(is_good(book, first), True)
            self.assertLessEqual(tuple(first.values()), tuple(table[taken] for taken in book.sets))


class Statements(unittest.TestCase):
    def test_the_values_of_a_good_chooser_of_the_lists_are_a_filling(self):
        source = random.Random(21)
        books = [HORN, STEP, HORN.turned((1, 0)), STEP.only(("upto",))]
        many = 0
        for _ in range(200):
            book = source.choice(books)
            net = random_net(source, book, source.randint(1, 5), 8)
            left = lists(book, net)
            if () not in left:
                many += 1
                for table in choosers(book)[:20]:
                    self.assertIn(tuple(table[taken] for taken in left), all_fillings(book, net))
            else:
                self.assertEqual(all_fillings(book, net), [])
        self.assertGreater(many, 50)

    def test_fewer_ties_keep_a_book_decided(self):
        for names in itertools.chain.from_iterable(itertools.combinations(HORN.names, many) for many in range(5)):
            good = choosers(HORN.only(names))
            self.assertIn(chooser(HORN), good)

    def test_renamed_ties_and_turned_values_change_nothing(self):
        source = random.Random(22)
        for _ in range(60):
            book = random_book(source, 2, source.randint(1, 4), 0.7)
            turned = {tuple(sorted(1 - value for value in taken)): taken for taken in book.sets}
            moved = [{taken: 1 - table[turned[taken]] for taken in book.sets} for table in choosers(book)]
            self.assertEqual(sorted(tuple(table.values()) for table in moved),
                             [tuple(table.values()) for table in choosers(book.turned((1, 0)))])
            names = dict(zip(book.names, "wxyz"))
            self.assertEqual(choosers(book.renamed(names)), choosers(book))

    def test_what_is_not_true(self):
        # Striking leaves values, but no filling lies in the lists.
        self.assertEqual(lists(XOR, Net(1, (("xor", (0, 0)),))), ((0, 1),))
        # A good chooser can lead a set to a value that is none of its own.
        good = choosers(Book(2, {"a": (1, ((0,), (1,)))}))
        self.assertIn({(0,): 1, (0, 1): 1, (1,): 0}, good)
        # Values that striking leaves need not stand in fillings: 1 is left for unknown 0 of the fork.
        self.assertEqual(lists(HORN, FORK)[0], (0, 1))
        self.assertTrue(all(filling[0] == 0 for filling in all_fillings(HORN, FORK)))

    def test_no_state_is_shared(self):
        table = chooser(HORN)
        table[(0,)] = 1
        self.assertEqual(chooser(HORN), {(0,): 0, (0, 1): 0, (1,): 1})
        before = choosers(HORN)
        choosers(HORN)[0].clear()
        self.assertEqual(choosers(HORN), before)


if __name__ == "__main__":
    unittest.main()
