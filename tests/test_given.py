"""Tests of setchooser.more.given: stage 12 with points 12.1 and 12.2."""

import itertools
import random
import unittest

from helpers import (
    FORK, HORN, ODD, RING, STEP, XOR, Checks, all_choosers, all_fillings, all_good, all_rows, least, net_of, no_books,
    no_choosers, no_nets, random_book, random_net, rounds, rows_where, same, strange_values)
from setchooser.base.books import Book
from setchooser.base.fillings import first_filling
from setchooser.base.nets import Net
from setchooser.choose.choosers import chooser, choosers, is_good
from setchooser.choose.setnets import set_net
from setchooser.errors import Emptied, InvalidBook, InvalidNet, InvalidOperation, NoChooser
from setchooser.more import given as module
from setchooser.more.given import (
    faithful, fill_from, first_fitting, fits, fixing, is_faithful, is_fixing, lists_from, own_lists, strikes_from)
from setchooser.strike.strikes import lists, strikes

EASY = STEP.only(("upto",))
# Decided by choosers that lead (0,) to 1 and (1,) to 0, or all to one value, but by no faithful one.
ANY = Book(2, {"g": (3, ((0, 0, 0), (0, 1, 0), (0, 1, 1), (1, 0, 0), (1, 0, 1), (1, 1, 1)))})


def is_such(table, sets):
    """Whether the table leads each set that has them to one of these values."""
    return all(table[taken] in told for taken, told in sets.items())


def no_sets(book):
    """Values that are no sets of values of the book."""
    near = [(book.size,), (0, book.size), (-1,), (True,), (0, True), (0, 0), (1, 0), [0], [], 0, None, "0", {0: 0},
            ((0,),), (10 ** 99,), (None,), ("a",)]
    right = [taken for many in range(book.size + 1) for taken in itertools.combinations(range(book.size), many)]
    return near + [value for value in strange_values() if not any(same(value, taken) for taken in right)]


def no_given(book, net):
    """Values that are no given lists of the net."""
    near = [{unknown: (0,)} for unknown in (net.size, -1, True, False, None, "0", (0,), 10 ** 99)]
    near += [{0: taken} for taken in no_sets(book)]
    near += [{0: (0,), net.size - 1: (0, 0)}, {0: (0,), net.size: (0,)}, ((0, (0,)),), [(0, (0,))], ((0,),) * net.size,
             (), {0: {0: 0}}]

    def is_right(value):
        return isinstance(value, dict) and all(
            type(unknown) is int and 0 <= unknown < net.size and isinstance(taken, tuple)
            and all(type(part) is int and 0 <= part < book.size for part in taken) and list(taken) == sorted(set(taken))
            for unknown, taken in value.items())
    return near + [value for value in strange_values() if not is_right(value)]


def random_given(source, book, net):
    """Given lists of a net, now and then an empty one."""
    given = {}
    for unknown in range(net.size):
        if source.random() < 0.5:
            taken = tuple(value for value in range(book.size) if source.random() < 0.6)
            given[unknown] = taken if taken or source.random() < 0.1 else (source.randrange(book.size),)
    return given


class Examples(unittest.TestCase, Checks):
    def test_the_examples_of_stage_12(self):
        self.assertEqual(
            [faithful(HORN) == chooser(HORN), faithful(XOR), fixing(XOR, ()), is_fixing(HORN, (0, 1), chooser(HORN)),
             own_lists(XOR)],
            [True, None, None, True, {0: (0,), 1: (0, 1), 2: (1,)}])
        self.assertEqual(
            [lists_from(HORN, FORK, {1: (1,)}), fill_from(HORN, FORK, {1: (1,)}), first_fitting(HORN, FORK, {0: (1,)}),
             strikes_from(HORN, FORK, {1: (1,)})],
            [((0,), (1,), (0,)), (0, 1, 0), None, {(0, 1): 2, (2, 1): 1}])
        self.fails(Emptied, fill_from, HORN, FORK, {0: (1,)}, unknown=0)
        self.assertEqual(
            [fixing(EASY, ())[0, 1], fixing(EASY, (1, 2))[1,], lists_from(XOR, set_net(XOR), own_lists(XOR)),
             first_fitting(XOR, set_net(XOR), own_lists(XOR))],
            [0, 1, ((0,), (0, 1), (1,)), None])

    def test_the_place_of_the_functions(self):
        for name in ("faithful", "is_faithful", "fixing", "is_fixing", "own_lists", "lists_from", "strikes_from",
                     "fits", "first_fitting", "fill_from"):
            self.assertEqual(getattr(module, name).__module__, "setchooser.more.given")


class Errors(unittest.TestCase, Checks):
    def test_wrong_arguments(self):
        book = (no_books, InvalidBook)
        for one in (HORN, STEP):
            values = (lambda: no_sets(one), InvalidOperation)
            self.refuses(faithful, (one,), [book])
            self.refuses(is_faithful, (one, {}), [book, None])
            self.refuses(fixing, (one, (0,)), [book, values])
            self.refuses(is_fixing, (one, (0,), {}), [book, values, None])
            self.refuses(own_lists, (one,), [book])

    def test_wrong_nets_and_given_lists(self):
        bad = [(no_books, InvalidBook), (no_nets, InvalidNet), (lambda: no_given(HORN, FORK), InvalidOperation)]
        for call in (lists_from, strikes_from, first_fitting, fill_from):
            self.refuses(call, (HORN, FORK, {1: (1,)}), bad)
        self.refuses(fits, (HORN, FORK, {1: (1,)}, (0, 1, 0)), bad + [None])
        for value in strange_values():
            self.fails(InvalidOperation, fits, HORN, FORK, {3: (0,)}, value)
            self.fails(InvalidOperation, is_fixing, HORN, (2,), value)
            self.fails(InvalidBook, is_faithful, FORK, value)

    def test_the_net_belongs_to_the_book(self):
        for call in (lists_from, strikes_from, first_fitting, fill_from):
            self.fails(InvalidOperation, call, XOR, FORK, {})
            self.fails(InvalidOperation, call, XOR, FORK, {0: (2,)})
            self.fails(InvalidOperation, call, HORN, Net(1, (("if", (0,)),)), {0: ()})
        self.fails(InvalidOperation, fits, XOR, FORK, {}, (0, 0, 0))

    def test_the_order_of_the_errors_behind(self):
        # No faithful chooser, whatever striking leaves; the names of all ties are kept.
        for book, net, given in ((XOR, ODD, {}), (XOR, ODD, {0: ()}), (XOR, Net(0, ()), {}),
                                 (ANY + HORN, FORK, {0: (1,)}), (ANY, Net(1, ()), {0: ()}),
                                 (RING, Net(2, ()), {1: (0,)})):
            self.assertIsNone(faithful(book))
            self.fails(NoChooser, fill_from, book, net, given, which=book.names)
            self.fails(InvalidOperation, fill_from, book, net, {net.size: ()})
        self.assertIsNotNone(chooser(ANY))
        # The least unknown with an empty list.
        self.fails(Emptied, fill_from, HORN, FORK.with_tie("yes", (0,)), {}, unknown=0)
        self.fails(Emptied, fill_from, HORN, Net(4, ()), {3: (), 2: ()}, unknown=2)
        self.fails(Emptied, fill_from, HORN, Net(4, (("if", (3, 1)),)), {3: ()}, unknown=1)


class Faithful(unittest.TestCase):
    def check(self, book, good):
        told = [table for table in good if all(table[taken] in taken for taken in book.sets)]
        first = faithful(book)
        self.assertEqual(first, told[0] if told else None)
        if told:
            self.assertEqual(tuple(first), book.sets)
        return bool(told)

    def test_books_of_one_and_two_values_by_force(self):
        source = random.Random(91)
        counts = {}
        for _ in range(150):
            book = random_book(source, source.randint(1, 2), source.randint(0, 4), source.choice((0.4, 0.6, 0.8)))
            good = all_good(book)
            told = (bool(good), self.check(book, good))
            counts[told] = counts.get(told, 0) + 1
            for table in all_choosers(book):
                right = table in good and all(table[taken] in taken for taken in book.sets)
                self.assertIs(is_faithful(book, table), right)
                self.assertIs(is_fixing(book, (), table), table in good)
            for many in range(book.size + 1):
                for values in itertools.combinations(range(book.size), many):
                    fixed = [table for table in good if all(table[value,] == value for value in values)]
                    self.assertEqual(fixing(book, values), fixed[0] if fixed else None)
                    for table in all_choosers(book):
                        self.assertIs(is_fixing(book, values, table), table in fixed)
        self.assertGreater(min(counts.values()), 2)
        self.assertEqual(set(counts), {(True, True), (True, False), (False, False)})

    def test_books_of_three_values_by_force(self):
        source = random.Random(92)
        counts = {True: 0, False: 0}
        for turn in range(14):
            book = (STEP, EASY, RING, Book(3, {}))[turn] if turn < 4 else random_book(source, 3, 2, 0.5, places=(2,))
            good = all_good(book)
            counts[self.check(book, good)] += 1
            for values in ((), (0,), (1,), (2,), (0, 1), (0, 2), (1, 2), (0, 1, 2)):
                fixed = [table for table in good if all(table[value,] == value for value in values)]
                self.assertEqual(fixing(book, values), fixed[0] if fixed else None)
                self.assertTrue(all(is_fixing(book, values, table) for table in fixed[:20]))
            for table in source.sample(good, min(len(good), 30)):
                self.assertIs(is_faithful(book, table), all(table[taken] in taken for taken in book.sets))
        self.assertGreater(min(counts.values()), 2)

    def test_books_of_four_values(self):
        source = random.Random(93)
        whole = Book(4, {name: (3, all_rows(4, 3)) for name in "abcdefgh"})
        self.assertEqual(faithful(whole), least(whole))
        self.assertEqual(fixing(whole, ()), {taken: 0 for taken in whole.sets})
        zeros = {taken: 0 for taken in whole.sets}
        self.assertEqual(fixing(whole, (1, 3)), {**zeros, (1,): 1, (3,): 3})
        for chance in (0.5, 0.9):
            ties = {name: (3, tuple(row for row in all_rows(4, 3) if source.random() < chance)) for name in "abcd"}
            book = Book(4, ties)
            first = faithful(book)
            if first is not None:
                self.assertIs(is_faithful(book, first), True)
            for values in ((), (0,), (1, 2), (0, 1, 2, 3)):
                table = fixing(book, values)
                if table is not None:
                    self.assertIs(is_fixing(book, values, table), True)
        # A tie that is kept by one chooser alone of those that are faithful.
        table = {taken: source.choice(taken) for taken in whole.sets}
        ties = {}
        for name in "abc":
            rows = set(source.sample(all_rows(4, 3), 3))
            size = 0
            while size < len(rows):
                size = len(rows)
                rows |= {tuple(table[tuple(sorted(set(column)))] for column in zip(*some))
                         for many in (1, 2, 3) for some in itertools.combinations(sorted(rows), many)}
            ties[name] = (3, tuple(sorted(rows)))
        book = Book(4, ties)
        if is_good(book, table):
            self.assertIs(is_faithful(book, table), True)
            self.assertLessEqual(tuple(faithful(book).values()), tuple(table[taken] for taken in book.sets))

    def test_it_is_the_first_one_in_the_order_of_choosers(self):
        for book in (HORN, STEP, RING, XOR):
            told = [table for table in choosers(book) if is_faithful(book, table)]
            self.assertEqual(faithful(book), told[0] if told else None)
        # The first of all good choosers is not faithful.
        self.assertEqual(chooser(EASY), {taken: 0 for taken in EASY.sets})
        self.assertEqual(faithful(EASY), least(EASY))
        self.assertEqual(fixing(EASY, (2,)), {**{taken: 0 for taken in EASY.sets}, (2,): 2})

    def test_every_value_is_judged(self):
        table = {(0,): 0, (0, 1): 0, (1,): 1}
        for value in strange_values() + no_choosers(HORN):
            self.assertIs(is_faithful(HORN, value), same(value, table))
            for values in ((), (0,), (1,), (0, 1)):
                self.assertIs(is_fixing(HORN, values, value), same(value, table))
            self.assertIs(is_faithful(XOR, value), False)
            self.assertIs(is_fixing(XOR, (), value), False)
        for value in no_choosers(STEP):
            self.assertIs(is_faithful(STEP, value), False)
            self.assertIs(is_fixing(STEP, (), value), False)
        # Faithful, and fixing all values, but not good.
        for other in ({(0,): 0, (0, 1): 1, (1,): 1}, least(XOR)):
            self.assertIs(is_faithful(XOR, other), False)
            self.assertIs(is_fixing(XOR, (0, 1), other), False)
        good = {taken: 0 for taken in EASY.sets}
        self.assertIs(is_good(EASY, good), True)
        self.assertIs(is_faithful(EASY, good), False)
        self.assertIs(is_fixing(EASY, (0,), good), True)
        self.assertIs(is_fixing(EASY, (0, 1), good), False)
        # It fixes all values, but leads a set of two to neither.
        apart = {**least(Book(3, {})), (0, 1): 2}
        self.assertIs(is_faithful(Book(3, {}), apart), False)
        self.assertIs(is_fixing(Book(3, {}), (0, 1, 2), apart), True)

    def test_own_lists(self):
        for book in (Book(1, {}), HORN, STEP, Book(4, {})):
            told = own_lists(book)
            self.assertEqual(told, dict(enumerate(book.sets)))
            self.assertEqual(list(told), list(range(len(book.sets))))
            told.clear()
            self.assertEqual(own_lists(book), dict(enumerate(book.sets)))


class Given(unittest.TestCase, Checks):
    def check(self, book, net, given):
        left, ranks = rounds(book, net, given)
        self.assertTrue(same(lists_from(book, net, given), left))
        self.assertEqual(strikes_from(book, net, given), ranks)
        self.assertEqual(list(strikes_from(book, net, given)), sorted(ranks))
        table = faithful(book)
        if table is None:
            self.fails(NoChooser, fill_from, book, net, given, which=book.names)
        elif () in left:
            self.fails(Emptied, fill_from, book, net, given, unknown=left.index(()))
        else:
            self.assertEqual(fill_from(book, net, given), tuple(table[taken] for taken in left))
        return left

    def test_rounds_counted_by_hand(self):
        # 1 of unknown 2 goes in the first round, since it is not with 1 of unknown 1; then 1 of unknown 0.
        self.assertEqual(strikes_from(HORN, FORK, {1: (1,)}), {(0, 1): 2, (2, 1): 1})
        # Unknown 1 has to be more than unknown 0 and less than 0 or 1: it loses all values in the first round.
        row = Net(3, (("less", (0, 1)), ("less", (1, 2))))
        self.assertEqual(strikes_from(STEP, row, {2: (0, 1)}), {(0, 0): 2, (0, 1): 2, (0, 2): 1, (1, 0): 1, (1, 1): 1,
                                                               (1, 2): 1, (2, 0): 1, (2, 1): 2})
        self.assertEqual(lists_from(STEP, row, {2: (0, 1)}), ((), (), ()))
        self.assertEqual(strikes_from(STEP, row, {0: (0,), 1: (1,), 2: (2,)}), {})
        self.assertEqual(strikes_from(STEP, row, {0: (0,)}), {(1, 0): 1, (1, 2): 1, (2, 0): 1, (2, 1): 2})

    def test_values_that_are_not_given_are_no_strikes(self):
        # Without given lists 0 of unknown 1 and 2 of unknown 0 are struck.
        pair = Net(2, (("less", (0, 1)),))
        self.assertEqual(strikes(STEP, pair), {(0, 2): 1, (1, 0): 1})
        self.assertEqual(strikes_from(STEP, pair, {0: (0, 1)}), {(1, 0): 1})
        self.assertEqual(strikes_from(STEP, pair, {0: (0, 1), 1: (1, 2)}), {})
        self.assertEqual(lists_from(STEP, pair, {0: (0, 1), 1: (1, 2)}), ((0, 1), (1, 2)))
        self.assertEqual(strikes_from(STEP, pair, {0: (1,)}), {(1, 0): 1, (1, 1): 1})
        self.assertEqual(strikes_from(STEP, pair, {0: (), 1: ()}), {})

    def test_lists_that_are_given_empty(self):
        self.assertEqual(lists_from(HORN, FORK, {0: ()}), ((), (), ()))
        self.assertEqual(strikes_from(HORN, FORK, {0: ()}), {(1, 0): 1, (1, 1): 1, (2, 0): 1, (2, 1): 1})
        self.assertEqual(lists_from(HORN, Net(2, ()), {1: ()}), ((0, 1), ()))
        self.assertEqual(strikes_from(HORN, Net(2, ()), {1: ()}), {})
        self.assertIsNone(first_fitting(HORN, Net(2, ()), {1: ()}))
        self.assertIsNone(first_fitting(HORN, FORK, {0: ()}))
        self.assertIs(fits(HORN, Net(2, ()), {1: ()}, (0, 0)), False)
        self.fails(Emptied, fill_from, HORN, Net(2, ()), {1: ()}, unknown=1)
        for unknown in range(3):
            self.check(HORN, FORK, {unknown: ()})
            self.check(XOR, ODD, {unknown: ()})

    def test_no_unknowns_and_no_given_lists(self):
        for book in (HORN, XOR, Book(1, {}), Book(4, {})):
            self.assertEqual((lists_from(book, Net(0, ()), {}), strikes_from(book, Net(0, ()), {})), ((), {}))
            self.assertEqual(first_fitting(book, Net(0, ()), {}), ())
            self.assertIs(fits(book, Net(0, ()), {}, ()), True)
        self.assertEqual(fill_from(HORN, Net(0, ()), {}), ())
        source = random.Random(94)
        for _ in range(60):
            book = random_book(source, source.randint(1, 4), 3, 0.5)
            net = random_net(source, book, source.randint(0, 4), 5)
            self.assertEqual(lists_from(book, net, {}), lists(book, net))
            self.assertEqual(strikes_from(book, net, {}), strikes(book, net))
            self.assertEqual(first_fitting(book, net, {}), first_filling(book, net))

    def test_small_nets_by_force(self):
        source = random.Random(95)
        counts = {"none": 0, "empty": 0, "fits": 0, "whole but none fits": 0}
        for _ in range(400):
            book = random_book(source, source.randint(1, 4), source.randint(0, 3), source.choice((0.4, 0.6, 0.8)))
            net = random_net(source, book, source.randint(0, 5 if book.size < 4 else 4), source.randint(0, 7))
            given = random_given(source, book, net)
            left = self.check(book, net, given)
            told = [filling for filling in all_fillings(book, net)
                    if all(filling[unknown] in taken for unknown, taken in given.items())]
            self.assertTrue(same(first_fitting(book, net, given), told[0] if told else None))
            for filling in all_fillings(book, net)[:30]:
                self.assertIs(fits(book, net, given, filling), filling in told)
            if faithful(book) is None:
                counts["none"] += 1
                counts["whole but none fits"] += () not in left and not told
            else:
                self.assertIs(bool(told), () not in left)
                counts["fits" if told else "empty"] += 1
                if told:
                    self.assertIn(fill_from(book, net, given), told)
        self.assertGreater(min(counts.values()), 3)

    def test_fits_every_value(self):
        for value in strange_values():
            self.assertIs(fits(HORN, FORK, {}, value), same(value, (0, 0, 0)))
            self.assertIs(fits(HORN, FORK, {0: (0,)}, value), same(value, (0, 0, 0)))
            self.assertIs(fits(HORN, FORK, {1: (1,)}, value), False)
            self.assertIs(fits(STEP, Net(0, ()), {}, value), same(value, ()))
        for value, right in (((0, 1, 0), True), ((0, 0, 1), False), ((0, 0, 0), False), ((0, True, 0), False),
                             ([0, 1, 0], False), ((0, 1), False), ((0, 1, 0, 0), False), ((0, 1, 1), False)):
            self.assertIs(fits(HORN, FORK, {1: (1,)}, value), right)
        # A filling that fits no given list.
        self.assertIs(fits(HORN, FORK, {0: (1,), 1: (1,), 2: (1,)}, (0, 0, 0)), False)
        self.assertIs(fits(HORN, FORK, {0: (0,), 1: (0, 1), 2: (1,)}, (0, 0, 0)), False)
        self.assertIs(fits(HORN, FORK, {2: (0,), 0: (0,)}, (0, 0, 0)), True)

    def test_first_fitting_of_large_nets(self):
        pairs = [("xor", (2 * pair, 2 * pair + 1)) for pair in range(30)]
        self.assertEqual(first_fitting(XOR, net_of(60, pairs), {0: (1,), 59: (0,)}), (1, 0) + (0, 1) * 28 + (1, 0))
        self.assertIsNone(first_fitting(XOR, net_of(60, pairs), {58: (1,), 59: (1,)}))
        self.assertEqual(first_fitting(Book(4, {}), Net(60, ()), {5: (3,), 59: (1, 2)}),
                         (0,) * 5 + (3,) + (0,) * 53 + (1,))
        ring = net_of(60, [("upto", (k, (k + 1) % 60)) for k in range(60)])
        self.assertEqual(first_fitting(STEP, ring, {30: (1, 2)}), (1,) * 60)
        self.assertEqual(fill_from(STEP, ring, {30: (1, 2)}), (1,) * 60)
        self.assertEqual(lists_from(STEP, ring, {30: (1, 2), 7: (0, 1)}), ((1,),) * 60)
        self.assertEqual(max(strikes_from(STEP, ring, {30: (1, 2)}).values()), 59)

    def test_books_of_four_values_with_ties_of_three_places(self):
        source = random.Random(96)
        rows = rows_where(4, 3, lambda one, two, last: last == min(one, two))
        book = Book(4, {"least": (3, rows), "any": (3, all_rows(4, 3))})
        self.assertIsNotNone(faithful(book))
        for many in (10, 60):
            net = net_of(60, [(name, tuple(source.sample(range(60), 3)))
                              for name in source.choices(("least", "any"), k=many)])
            for _ in range(3):
                given = random_given(source, book, net)
                left = self.check(book, net, given)
                found = first_fitting(book, net, given)
                self.assertIs(found is None, () in left)
                if found is not None:
                    self.assertIs(fits(book, net, given, found), True)

    def test_nothing_is_changed(self):
        given = {2: (0, 1), 1: (1,)}
        lists_from(HORN, FORK, given)
        strikes_from(HORN, FORK, given).clear()
        self.assertEqual(list(given.items()), [(2, (0, 1)), (1, (1,))])
        self.assertEqual(strikes_from(HORN, FORK, given), {(0, 1): 2, (2, 1): 1})


class Statements(unittest.TestCase):
    def test_the_set_net_with_own_lists(self):
        source = random.Random(97)
        counts = {True: 0, False: 0}
        for _ in range(60):
            book = random_book(source, source.randint(1, 3), source.randint(1, 3), source.choice((0.4, 0.7)))
            net = set_net(book)
            # Each unknown is left its own set, and what fits is just a good faithful chooser.
            self.assertEqual(lists_from(book, net, own_lists(book)), book.sets)
            found = first_fitting(book, net, own_lists(book))
            first = faithful(book)
            counts[first is None] += 1
            self.assertEqual(found, None if first is None else tuple(first.values()))
        self.assertGreater(min(counts.values()), 10)

    def test_unknowns_that_are_given_one_of_some_values(self):
        source = random.Random(98)
        many = 0
        for _ in range(150):
            book = random_book(source, source.randint(2, 3), source.randint(1, 3), 0.6, places=(1, 2))
            values = tuple(value for value in range(book.size) if source.random() < 0.5)
            table = fixing(book, values)
            if table is not None and values:
                net = random_net(source, book, 4, 5)
                given = {unknown: (source.choice(values),) for unknown in range(4) if source.random() < 0.5}
                left = lists_from(book, net, given)
                many += 1
                if () not in left:
                    self.assertIs(fits(book, net, given, tuple(table[taken] for taken in left)), True)
                else:
                    self.assertIsNone(first_fitting(book, net, given))
        self.assertGreater(many, 40)

    def test_given_lists_are_ties_of_one_place(self):
        source = random.Random(99)
        for _ in range(60):
            book = random_book(source, 3, 2, 0.5)
            net = random_net(source, book, 4, 4)
            given = random_given(source, book, net)
            more, wide = book, net
            for unknown, taken in given.items():
                name = "wxyz"[unknown]
                more = more.with_tie(name, 1, tuple((value,) for value in taken))
                wide = wide.with_tie(name, (unknown,))
            self.assertEqual(lists_from(book, net, given), lists(more, wide))
            self.assertEqual(first_fitting(book, net, given), first_filling(more, wide))

    def test_a_good_chooser_need_not_be_faithful(self):
        # Point 0.18: it is not true that a good chooser leads each set to a value of it.
        self.assertIsNotNone(chooser(ANY))
        self.assertIsNone(faithful(ANY))


if __name__ == "__main__":
    unittest.main()
