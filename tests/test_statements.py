"""Tests of the main statements of the document, points 0.14 to 0.19, and of its section on examples."""

import itertools
import random
import unittest

from helpers import (
    FORK, HORN, ODD, RING, STEP, XOR, all_choosers, all_fillings, all_good, all_rows, least, random_book, random_net,
    rounds, rows_where, told_by_rows)
from setchooser.base.books import Book
from setchooser.base.fillings import first_filling, fillings
from setchooser.base.nets import Net
from setchooser.choose.choosers import choosers, chooser, does_keep, is_good, is_shadow
from setchooser.choose.decided import book_paper, is_book_paper, is_decided, is_spoiler, spoiler
from setchooser.choose.filled import common, is_filled
from setchooser.choose.setnets import chooser_of, filling_of, set_net
from setchooser.desk.desk import Desk
from setchooser.more.cores import folds
from setchooser.more.dropped import greatest_decided, least_undecided
from setchooser.more.kept import closure, does_keep_rows
from setchooser.more.products import product
from setchooser.strike.strikes import emptied, lists
from setchooser.text.shell import Shell

EASY = STEP.only(("upto",))
SPLIT = Book(2, {"g": (3, ((0, 0, 0), (0, 1, 0), (0, 1, 1), (1, 0, 0), (1, 0, 1), (1, 1, 1))),
                 "no": (1, ((0,),)), "yes": (1, ((1,),))})


def drawn(seed, many, size=2, chance=0.55, places=(1, 2, 2)):
    """Books with nets that belong to them."""
    source = random.Random(seed)
    for _ in range(many):
        book = random_book(source, size, source.randint(1, 3), chance, places)
        yield book, random_net(source, book, source.randint(0, 4), source.randint(0, 5))


class TheExamples(unittest.TestCase):
    def test_what_is_said_of_the_books_and_the_net(self):
        self.assertEqual([is_decided(book) for book in (HORN, STEP, XOR, RING)], [True, True, False, False])
        self.assertIs(is_good(STEP, least(STEP)), True)
        self.assertGreater(len(choosers(STEP)), 1)
        self.assertEqual(lists(HORN, FORK), ((0, 1),) * 3)
        self.assertEqual([filling for filling in fillings(HORN, FORK) if filling[0] == 1], [])


class Struck(unittest.TestCase):
    """Point 0.14."""

    def test_the_values_of_fillings_are_not_struck(self):
        many = 0
        for book, net in drawn(171, 150):
            left = lists(book, net)
            for filling in fillings(book, net):
                many += 1
                self.assertTrue(all(value in taken for value, taken in zip(filling, left)))
        self.assertGreater(many, 100)

    def test_lists_that_are_not_empty_are_shadows_and_choosers_make_fillings_of_them(self):
        shadows = made = 0
        for book, net in drawn(172, 150, size=2):
            left = lists(book, net)
            if () in left:
                continue
            for name, unknowns in net.ties:
                shadows += 1
                self.assertIs(is_shadow(book, name, tuple(left[unknown] for unknown in unknowns)), True)
            told = all_fillings(book, net)
            for table in all_good(book):
                made += 1
                self.assertIn(tuple(table[taken] for taken in left), told)
        self.assertGreater(min(shadows, made), 100)


class SetNets(unittest.TestCase):
    """Point 0.15."""

    def test_striking_leaves_each_unknown_its_own_set(self):
        for book, _ in drawn(173, 60, size=3):
            for taken, left in zip(book.sets, lists(book, set_net(book))):
                self.assertLessEqual(set(taken), set(left))

    def test_its_fillings_are_the_good_choosers(self):
        for book, _ in drawn(174, 40):
            good = [filling_of(book, table) for table in all_good(book)]
            self.assertEqual(all_fillings(book, set_net(book)), sorted(good))
            for values in all_rows(2, 3):
                self.assertIs(is_good(book, chooser_of(book, values)), values in good)

    def test_exactly_one_is_true_for_each_book(self):
        counts = {True: 0, False: 0}
        for book, net in drawn(175, 120, places=(1, 2, 3)):
            decided = is_decided(book)
            counts[decided] += 1
            paper = book_paper(book)
            self.assertIs(is_book_paper(book, paper), True)
            self.assertEqual(paper[0], "chooser" if decided else "none")
            if decided:
                self.assertIs(spoiler(book), None)
                self.assertIs(is_filled(book, net), first_filling(book, net) is not None)
                self.assertIs(is_spoiler(book, set_net(book)), False)
            else:
                self.assertEqual((emptied(book, spoiler(book)), first_filling(book, spoiler(book))), (None, None))
        self.assertGreater(min(counts.values()), 10)


class Meets(unittest.TestCase):
    """Point 0.17."""

    def leads_rows_to_rows(self, table, rows):
        return all(tuple(table[taken] for taken in told_by_rows(some)) in rows
                   for many in range(1, len(rows) + 1) for some in itertools.combinations(rows, many))

    def test_good_choosers_lead_any_rows_of_a_tie_to_a_row(self):
        for book, _ in drawn(176, 30, places=(1, 2, 3)):
            for table in all_choosers(book):
                self.assertIs(is_good(book, table), all(self.leads_rows_to_rows(table, book[name]) for name in book))

    def test_kept_ties_are_closed_under_meets(self):
        for places in (1, 2):
            sets = [rows_where(2, places, lambda *row: mask >> all_rows(2, places).index(row) & 1)
                    for mask in range(1 << 2 ** places)]
            for table in all_choosers(XOR):
                kept = [rows for rows in sets if does_keep_rows(XOR, table, rows)]
                for one, other in itertools.product(kept, repeat=2):
                    self.assertIn(tuple(row for row in one if row in other), kept)
                for rows in sets:
                    around = [other for other in kept if set(rows) <= set(other)]
                    self.assertEqual(closure(XOR, table, rows), min(around, key=len))


class NotTrue(unittest.TestCase):
    """Point 0.18: for each sentence of it something that shows that it is not so."""

    def test_lists_without_a_filling(self):
        self.assertEqual((lists(XOR, ODD), first_filling(XOR, ODD)), (((0, 1),) * 3, None))

    def test_values_that_are_left_and_stand_in_no_filling(self):
        self.assertEqual((is_decided(HORN), lists(HORN, FORK)[0], common(HORN, FORK, 0)), (True, (0, 1), (0,)))

    def test_a_good_chooser_that_leads_a_set_to_a_value_outside(self):
        self.assertEqual(chooser(EASY)[1, 2], 0)
        self.assertIs(is_good(EASY, chooser(EASY)), True)

    def test_each_two_ties_decided_and_not_all_three(self):
        for many in (1, 2):
            for names in itertools.combinations(SPLIT.names, many):
                self.assertIs(is_decided(SPLIT.only(names)), True)
        self.assertIs(is_decided(SPLIT), False)

    def test_one_row_more_or_less(self):
        table = chooser(HORN)
        self.assertIs(does_keep(HORN, table, "nand"), True)
        self.assertIs(does_keep_rows(HORN, table, ((0, 1), (1, 0))), False)
        self.assertIs(does_keep_rows(HORN, table, ((0, 1),)), True)
        self.assertIs(does_keep_rows(HORN, table, ((0, 0), (0, 1), (1, 0), (1, 1))), True)

    def test_a_good_chooser_of_two_values_that_is_not_the_least_one(self):
        found = [table for table in choosers(STEP) if table[0, 1] == 0 and table != least(STEP)]
        self.assertNotEqual(found, [])

    def test_ties_that_can_be_dropped_are_not_equally_many(self):
        source = random.Random(177)
        for _ in range(400):
            book = random_book(source, 3, 4, 0.4, places=(2, 2, 3))
            dropped = {len(book) - len(names) for names in greatest_decided(book)}
            if len(dropped) > 1:
                # None of them can be left: with any further tie the others are not decided.
                self.assertNotEqual(least_undecided(book), ())
                return
        self.fail("all have equal sizes")

    def test_a_decided_product_of_a_book_that_is_not(self):
        self.assertEqual([is_decided(XOR), is_decided(product(XOR, Book(2, {"xor": (2, ())})))], [False, True])


class AreTrue(unittest.TestCase):
    """Point 0.19."""

    def test_fewer_ties(self):
        for book, _ in drawn(178, 60):
            if is_decided(book):
                for names in itertools.chain.from_iterable(
                        itertools.combinations(book.names, many) for many in range(len(book))):
                    self.assertIs(is_decided(book.only(names)), True)

    def test_a_tie_of_equal_values(self):
        for places in (1, 2, 3):
            same = Book(2, {"same": (places, ((0,) * places, (1,) * places))})
            self.assertEqual(len(choosers(same)), 8)
            for table in all_choosers(same):
                self.assertIs(does_keep(same, table, "same"), True)

    def test_single_values_are_led_by_a_fold(self):
        for book, _ in drawn(179, 60):
            for table in all_good(book):
                self.assertIn(tuple(table[value,] for value in range(book.size)), folds(book))

    def test_nets_beside_one_another(self):
        source = random.Random(180)
        for book, net in drawn(181, 80):
            other = random_net(source, book, 3, 4)
            both = net + other
            self.assertEqual(emptied(book, both) is None, emptied(book, net) is None and emptied(book, other) is None)
            self.assertEqual(first_filling(book, both) is None,
                             first_filling(book, net) is None or first_filling(book, other) is None)
            self.assertEqual(lists(book, both), rounds(book, net)[0] + rounds(book, other)[0])

    def test_renamed_ties_and_values_change_nothing(self):
        source = random.Random(182)
        for book, net in drawn(183, 60, size=3):
            turn = tuple(source.sample(range(3), 3))
            turned = book.turned(turn)
            names = dict(zip(book.names, ("x", "y", "z")))
            renamed = book.renamed(names)
            other = Net(net.size, tuple(sorted((names[name], unknowns) for name, unknowns in net.ties)))
            self.assertEqual([is_decided(turned), is_decided(renamed)], [is_decided(book)] * 2)
            self.assertEqual(lists(renamed, other), lists(book, net))
            self.assertEqual(lists(turned, net), tuple(
                tuple(sorted(turn[value] for value in taken)) for taken in lists(book, net)))
            self.assertEqual(list(fillings(renamed, other)), list(fillings(book, net)))
            self.assertEqual(len(list(fillings(turned, net))), len(list(fillings(book, net))))


class Objects(unittest.TestCase):
    """Point 0.2 over the whole program."""

    def test_what_can_be_iterated_over(self):
        self.assertEqual([list(HORN), list(FORK)], [list(HORN.names), list(FORK.ties)])
        for value in (Desk(HORN, FORK), Desk(HORN, FORK).trial(), Shell("values 1", "unknowns 0")):
            with self.assertRaises(TypeError):
                iter(value)

    def test_operands_are_not_changed(self):
        book, net = Book(2, dict(HORN_TIES)), Net(3, FORK.ties)
        desk = Desk(book, net)
        desk.add(3)
        desk.untie("no")
        self.assertEqual((book, net), (HORN, FORK))


HORN_TIES = {name: (HORN.places(name), HORN[name]) for name in HORN}


if __name__ == "__main__":
    unittest.main()
