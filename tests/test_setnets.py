"""Tests of setchooser.choose.setnets: points 0.13 to 0.16 and stage 7."""

import itertools
import random
import unittest

from helpers import (
    FORK, HORN, ODD, RING, STEP, XOR, Checks, all_choosers, all_fillings, all_rows, all_shadows, least, no_books,
    no_choosers, no_nets, random_book, random_net, rounds, same, strange_values, told_by_rows)
from setchooser.base.books import Book
from setchooser.base.fillings import first_filling, is_filling
from setchooser.base.nets import Net, belongs
from setchooser.choose import setnets as module
from setchooser.choose.choosers import chooser, choosers, is_good
from setchooser.choose.setnets import chooser_of, filling_of, lists_as_map, set_net
from setchooser.errors import InvalidBook, InvalidChooser, InvalidNet, InvalidOperation
from setchooser.strike.strikes import lists

FULL = FORK.with_tie("yes", (0,))


def no_values(book):
    """Values that are no tuples of a value of the book for each of its sets, some of them nearly."""
    right = [0] * len(book.sets)
    near = [tuple(right[1:]), tuple(right + [0]), right, (right,), dict(enumerate(right)), ()]
    for at in range(len(right)):
        for value in (False, True, book.size, -1, None, "0", (0,), 10 ** 99, -10 ** 60):
            near.append(tuple(right[:at] + [value] + right[at + 1:]))
    return near + [value for value in strange_values() if not (
        isinstance(value, tuple) and len(value) == len(right)
        and all(type(part) is int and 0 <= part < book.size for part in value))]


class Examples(unittest.TestCase):
    def test_the_examples_of_stage_7(self):
        self.assertEqual(
            [set_net(XOR).ties, lists(XOR, set_net(XOR)), first_filling(XOR, set_net(XOR)), len(set_net(STEP))],
            [(('xor', (0, 2)), ('xor', (1, 1)), ('xor', (2, 0))), ((0, 1), (0, 1), (0, 1)), None, 33])
        self.assertEqual(
            [filling_of(HORN, chooser(HORN)), chooser_of(XOR, (1, 0, 0)), lists_as_map(HORN, FORK),
             lists_as_map(HORN, FORK.with_tie("yes", (0,)))],
            [(0, 0, 1), {(0,): 1, (0, 1): 0, (1,): 0}, (1, 1, 1), None])

    def test_the_place_of_the_functions(self):
        for name in ("set_net", "filling_of", "chooser_of", "lists_as_map"):
            self.assertEqual(getattr(module, name).__module__, "setchooser.choose.setnets")


class Errors(unittest.TestCase, Checks):
    def test_wrong_arguments(self):
        book = (no_books, InvalidBook)
        self.refuses(set_net, (HORN,), [book])
        self.refuses(filling_of, (HORN, chooser(HORN)), [book, (lambda: no_choosers(HORN), InvalidChooser)])
        self.refuses(filling_of, (STEP, chooser(STEP)), [book, (lambda: no_choosers(STEP), InvalidChooser)])
        self.refuses(lists_as_map, (HORN, FORK), [book, (no_nets, InvalidNet)])
        for one in (HORN, STEP, Book(1, {}), Book(4, {})):
            good = (0,) * len(one.sets)
            self.refuses(chooser_of, (one, good), [book, (lambda: no_values(one), InvalidOperation)])

    def test_choosers_of_other_books(self):
        self.fails(InvalidChooser, filling_of, STEP, chooser(HORN))
        self.fails(InvalidChooser, filling_of, HORN, chooser(STEP))

    def test_the_net_belongs_to_the_book(self):
        self.fails(InvalidOperation, lists_as_map, XOR, FORK)
        self.fails(InvalidOperation, lists_as_map, HORN, Net(1, (("if", (0,)),)))


class SetNets(unittest.TestCase):
    def check(self, book, shadows):
        """Shadows has for each name the shadows of the tie."""
        net = set_net(book)
        self.assertEqual(net.size, len(book.sets))
        told = {(name, tuple(book.sets.index(taken) for taken in shadow)) for name in book for shadow in shadows[name]}
        self.assertEqual(net, Net(len(book.sets), tuple(sorted(told))))
        self.assertIs(belongs(book, net), True)
        # Striking leaves each unknown at least the values of its set, and the lists are closed under it.
        left = lists(book, net)
        for taken, more in zip(book.sets, left):
            self.assertLessEqual(set(taken), set(more))
        self.assertEqual(left, rounds(book, net)[0])

    def test_books_of_one_to_four_values_against_all_choices_of_rows(self):
        source = random.Random(41)
        for turn in range(80):
            size = 1 + turn % 4
            ties = {}
            for name in "abcd"[:source.randint(0, 4)]:
                places = source.randint(1, 3)
                every = all_rows(size, places)
                ties[name] = (places, tuple(sorted(source.sample(every, min(len(every), source.randint(0, 7))))))
            book = Book(size, ties)
            self.check(book, {name: all_shadows(book[name]) for name in book})

    def test_unknowns_are_numbered_in_the_order_of_the_sets(self):
        book = Book(3, {"t": (3, ((0, 1, 2), (2, 1, 0)))})
        # The sets are (0,), (0, 1), (0, 1, 2), (0, 2), (1,), (1, 2), (2,).
        self.assertEqual(set_net(book).ties, (("t", (0, 4, 6)), ("t", (3, 4, 3)), ("t", (6, 4, 0))))
        book = Book(4, {"t": (2, ((0, 3), (2, 3)))})
        self.assertEqual([book.sets.index(taken) for taken in ((0,), (0, 2), (2,), (3,))], [0, 5, 12, 14])
        self.assertEqual(set_net(book).ties, (("t", (0, 14)), ("t", (5, 14)), ("t", (12, 14))))

    def test_no_ties_and_no_rows(self):
        for size in (1, 2, 3, 4):
            self.assertEqual(set_net(Book(size, {})), Net(2 ** size - 1, ()))
            self.assertEqual(set_net(Book(size, {"never": (3, ())})), Net(2 ** size - 1, ()))
            some = Book(size, {"never": (2, ()), "zero": (1, ((0,),))})
            self.assertEqual(set_net(some), Net(2 ** size - 1, (("zero", (0,)),)))

    def test_the_widest_set_net(self):
        ties = {name: (3, all_rows(4, 3)) for name in "abcdefgh"}
        net = set_net(Book(4, ties))
        self.assertEqual((net.size, len(net)), (15, 8 * 15 ** 3))
        self.assertEqual(net.ties[0], ("a", (0, 0, 0)))
        self.assertEqual(net.ties[-1], ("h", (14, 14, 14)))


class Fillings(unittest.TestCase):
    def test_there_and_back(self):
        source = random.Random(42)
        for book in (Book(1, {}), HORN, XOR):
            for table in all_choosers(book):
                values = filling_of(book, table)
                self.assertIs(type(values), tuple)
                self.assertEqual(values, tuple(table[taken] for taken in book.sets))
                self.assertEqual(chooser_of(book, values), table)
        for book in (STEP, RING, Book(4, {})):
            for _ in range(50):
                values = tuple(source.randrange(book.size) for _ in book.sets)
                table = chooser_of(book, values)
                self.assertEqual(tuple(table), book.sets)
                self.assertEqual(filling_of(book, table), values)

    def test_the_order_of_a_dict_has_no_effect(self):
        table = {(1,): 0, (0, 1): 1, (0,): 1}
        self.assertEqual(filling_of(HORN, table), (1, 1, 0))
        self.assertEqual(list(table), [(1,), (0, 1), (0,)])

    def test_no_state_is_shared(self):
        chooser_of(HORN, (0, 0, 1)).clear()
        self.assertEqual(chooser_of(HORN, (0, 0, 1)), {(0,): 0, (0, 1): 0, (1,): 1})

    def test_a_chooser_is_good_just_if_its_values_fill_the_set_net(self):
        source = random.Random(43)
        answers = {True: 0, False: 0}
        for _ in range(40):
            book = random_book(source, source.randint(1, 2), source.randint(0, 3), 0.8)
            net = set_net(book)
            for table in all_choosers(book):
                good = is_good(book, table)
                answers[good] += 1
                self.assertIs(is_filling(book, net, filling_of(book, table)), good)
            self.assertEqual([chooser_of(book, values) for values in all_fillings(book, net)], list(choosers(book)))
        self.assertGreater(min(answers.values()), 50)
        net = set_net(STEP)
        for table in itertools.islice(all_choosers(STEP), 0, None, 7):
            self.assertIs(is_filling(STEP, net, filling_of(STEP, table)), is_good(STEP, table))

    def test_choosers_that_are_not_good_are_told_too(self):
        self.assertIs(is_good(XOR, chooser_of(XOR, (1, 1, 1))), False)
        self.assertEqual(filling_of(XOR, least(XOR)), (0, 0, 1))


class Maps(unittest.TestCase):
    def test_lists_counted_by_hand(self):
        # Lists (0,), (1,), (0,).
        self.assertEqual(lists_as_map(HORN, FORK.with_tie("yes", (1,))), (0, 2, 0))
        # Lists (0, 1), (1, 2) and all values.
        self.assertEqual(lists_as_map(STEP, Net(3, (("less", (0, 1)),))), (1, 5, 2))
        self.assertEqual(lists_as_map(XOR, ODD), (1, 1, 1))

    def test_no_unknowns_and_no_ties(self):
        for book in (HORN, XOR, Book(1, {}), Book(4, {"never": (1, ())})):
            self.assertEqual(lists_as_map(book, Net(0, ())), ())
            self.assertEqual(lists_as_map(book, Net(2, ())), (book.size - 1,) * 2)

    def test_one_list_left_empty(self):
        self.assertIsNone(lists_as_map(HORN, FULL))
        self.assertIsNone(lists_as_map(HORN, Net(4, FORK.ties).with_tie("no", (3,)).with_tie("yes", (3,))))
        book = Book(3, {"never": (2, ())})
        self.assertIsNone(lists_as_map(book, Net(3, (("never", (1, 2)),))))

    def test_it_moves_each_applied_tie_to_one_of_the_set_net(self):
        source = random.Random(44)
        counts = {"moved": 0, "empty": 0}
        for _ in range(200):
            book = random_book(source, source.randint(1, 4), source.randint(0, 4), source.choice((0.3, 0.5, 0.7)))
            net = random_net(source, book, source.randint(0, 6), source.randint(0, 8))
            moved = lists_as_map(book, net)
            left = rounds(book, net)[0]
            if () in left:
                self.assertIsNone(moved)
                counts["empty"] += 1
                continue
            self.assertIs(type(moved), tuple)
            self.assertEqual(tuple(book.sets[number] for number in moved), left)
            wide = set_net(book)
            for name, unknowns in net:
                counts["moved"] += 1
                self.assertIn((name, tuple(moved[unknown] for unknown in unknowns)), wide)
        self.assertGreater(min(counts.values()), 40)

    def test_the_set_net_maps_to_itself(self):
        # For these books striking leaves each unknown of the set net just the values of its set.
        fixed = {name: (1, ((value,),)) for value, name in enumerate("abc")}
        book = Book(3, {**fixed, "ab": (1, ((0,), (1,))), "ac": (1, ((0,), (2,))), "bc": (1, ((1,), (2,)))})
        self.assertEqual(lists_as_map(book, set_net(book)), tuple(range(7)))


class Statements(unittest.TestCase):
    def test_lists_of_any_net_are_shadows(self):
        left = lists(HORN, FORK)
        for name, unknowns in FORK:
            self.assertIn(tuple(left[unknown] for unknown in unknowns), all_shadows(HORN[name]))
        self.assertEqual(told_by_rows(HORN["if"]), ((0, 1), (0, 1)))

    def test_the_values_of_a_good_chooser_fill_what_maps_to_the_set_net(self):
        source = random.Random(45)
        many = 0
        for _ in range(150):
            book = random_book(source, source.randint(1, 3), source.randint(1, 3), 0.7)
            table = chooser(book)
            net = random_net(source, book, source.randint(0, 5), 6)
            moved = lists_as_map(book, net)
            if table is not None and moved is not None:
                many += 1
                values = filling_of(book, table)
                self.assertIs(is_filling(book, net, tuple(values[number] for number in moved)), True)
        self.assertGreater(many, 50)

    def test_equal_calls_return_equal_results(self):
        self.assertEqual(set_net(STEP), set_net(STEP))
        self.assertTrue(same(lists_as_map(HORN, FORK), lists_as_map(HORN, FORK)))


if __name__ == "__main__":
    unittest.main()
