"""Tests of fillings in setchooser.base.fillings: points 0.9, 0.14 and 0.19 and stage 4."""

import itertools
import random
import unittest

from helpers import (
    FORK, HORN, ODD, RING, STEP, XOR, Checks, all_fillings, net_of, no_books, no_nets, random_book, random_net,
    rows_where, same, strange_values)
from setchooser.base import fillings as module
from setchooser.base.books import Book
from setchooser.base.fillings import fillings, first_filling, is_filling
from setchooser.base.nets import Net
from setchooser.errors import InvalidBook, InvalidNet, InvalidOperation

NEVER = Book(2, {"never": (2, ()), "any": (2, rows_where(2, 2, lambda *row: True))})


def first_of(book, net):
    """The first filling that the generator yields, or None."""
    for filling in fillings(book, net):
        return filling
    return None


class Examples(unittest.TestCase):
    def test_the_examples_of_stage_4(self):
        self.assertEqual(
            [first_filling(HORN, FORK), list(fillings(HORN, FORK)), is_filling(HORN, FORK, (1, 1, 1)),
             first_filling(XOR, Net(1, (("xor", (0, 0)),))), first_filling(STEP, Net(0, ()))],
            [(0, 0, 0), [(0, 0, 0), (0, 0, 1), (0, 1, 0)], False, None, ()])

    def test_the_place_of_the_functions(self):
        for name in ("is_filling", "first_filling", "fillings", "case_paper", "is_case_paper", "asked", "clashes"):
            self.assertEqual(getattr(module, name).__module__, "setchooser.base.fillings")


class Errors(unittest.TestCase, Checks):
    def test_wrong_arguments(self):
        bad = [(no_books, InvalidBook), (no_nets, InvalidNet)]
        self.refuses(is_filling, (HORN, FORK, (0, 0, 0)), bad + [None])
        self.refuses(first_filling, (HORN, FORK), bad)
        self.refuses(first_of, (HORN, FORK), bad)

    def test_the_net_belongs_to_the_book(self):
        for call in (first_filling, first_of):
            self.fails(InvalidOperation, call, XOR, FORK)
            self.fails(InvalidOperation, call, HORN, Net(1, (("if", (0,)),)))
        for value in strange_values():
            self.fails(InvalidOperation, is_filling, XOR, FORK, value)

    def test_a_generator_raises_its_errors_when_its_first_element_is_requested(self):
        for book, net, error in ((None, FORK, InvalidBook), (HORN, None, InvalidNet), (XOR, FORK, InvalidOperation)):
            found = fillings(book, net)
            self.fails(error, next, found)
        found = fillings(HORN, FORK)
        self.assertIs(iter(found), found)
        self.assertEqual(next(found), (0, 0, 0))


class Judge(unittest.TestCase):
    def test_every_value_is_judged(self):
        for value in strange_values():
            self.assertIs(is_filling(HORN, FORK, value), same(value, (0, 0, 0)))
            self.assertIs(is_filling(STEP, Net(0, ()), value), same(value, ()))
            self.assertIs(is_filling(XOR, ODD, value), False)

    def test_values_near_fillings(self):
        for value in ((0, 0), (0, 0, 0, 0), (0, 0, False), [0, 0, 0], (0, 0, 2), (0, 0, -1), (1, 0, 0), (0, 1, 1),
                      (0, 0, None), "000", {0: 0, 1: 0, 2: 0}, (0, 0, (0,)), (0, 0, 10 ** 99), ((0, 0, 0),)):
            self.assertIs(is_filling(HORN, FORK, value), False, value)
        self.assertIs(is_filling(HORN, Net(2, ()), (1, 1)), True)
        self.assertIs(is_filling(HORN, Net(2, ()), (1, 2)), False)
        self.assertIs(is_filling(HORN, Net(2, ()), (1, True)), False)


class Found(unittest.TestCase):
    def test_small_nets_against_a_check_of_all_tuples(self):
        source = random.Random(3)
        for _ in range(400):
            book = random_book(source, source.randint(1, 4), source.randint(0, 4), source.choice((0.3, 0.5, 0.7, 0.9)))
            net = random_net(source, book, source.randint(0, 5 if book.size > 2 else 7), source.randint(0, 12))
            told = all_fillings(book, net)
            self.assertEqual(list(fillings(book, net)), told)
            self.assertEqual(first_filling(book, net), told[0] if told else None)
            for value in itertools.islice(itertools.product(range(book.size), repeat=net.size), 0, None, 7):
                self.assertIs(is_filling(book, net, value), value in told)

    def test_a_tie_without_rows(self):
        self.assertEqual(list(fillings(NEVER, Net(2, (("never", (0, 1)),)))), [])
        self.assertIsNone(first_filling(NEVER, Net(60, (("any", (0, 1)), ("never", (58, 58))))))
        self.assertEqual(list(fillings(NEVER, Net(2, (("any", (0, 1)),)))), [(0, 0), (0, 1), (1, 0), (1, 1)])

    def test_a_net_without_unknowns(self):
        for book in (HORN, NEVER, Book(4, {}), Book(1, {})):
            self.assertEqual(list(fillings(book, Net(0, ()))), [()])
            self.assertEqual(first_filling(book, Net(0, ())), ())
            self.assertIs(is_filling(book, Net(0, ()), ()), True)

    def test_a_book_of_one_value(self):
        book = Book(1, {"a": (3, ((0, 0, 0),)), "b": (2, ())})
        net = Net(60, (("a", (0, 1, 1)), ("a", (3, 4, 5))))
        self.assertEqual(list(fillings(book, net)), [(0,) * 60])
        self.assertEqual(list(fillings(book, net.with_tie("b", (7, 8)))), [])

    def test_an_unknown_at_several_places(self):
        book = Book(3, {"t": (3, ((0, 1, 2), (1, 1, 0), (2, 2, 2))), "s": (2, ((0, 1), (2, 2)))})
        self.assertEqual(list(fillings(book, Net(1, (("t", (0, 0, 0)),)))), [(2,)])
        self.assertEqual(list(fillings(book, Net(2, (("t", (1, 1, 0)),)))), [(0, 1), (2, 2)])
        self.assertEqual(list(fillings(book, Net(2, (("t", (1, 0, 1)),)))), [(2, 2)])

    def test_a_filling_is_equal_at_each_call(self):
        self.assertEqual(list(fillings(RING, Net(3, (("beats", (0, 1)),)))),
                         list(fillings(RING, Net(3, (("beats", (0, 1)),)))))

    def test_fillings_beside_one_another(self):
        both = FORK + FORK
        one = list(fillings(HORN, FORK))
        self.assertEqual(list(fillings(HORN, both)), [left + right for left in one for right in one])


class Large(unittest.TestCase):
    def test_sixty_unknowns_without_ties(self):
        self.assertEqual(first_filling(Book(4, {}), Net(60, ())), (0,) * 60)
        found = fillings(Book(4, {}), Net(60, ()))
        self.assertEqual([next(found)[-3:] for _ in range(6)],
                         [(0, 0, 0), (0, 0, 1), (0, 0, 2), (0, 0, 3), (0, 1, 0), (0, 1, 1)])

    def test_what_cannot_be_filled_at_the_end_of_a_wide_net(self):
        ties = [("xor", (57, 58)), ("xor", (57, 59)), ("xor", (58, 59))]
        self.assertIsNone(first_filling(XOR, net_of(60, ties)))
        pairs = [("xor", (2 * pair, 2 * pair + 1)) for pair in range(28)]
        self.assertIsNone(first_filling(XOR, net_of(60, ties + pairs)))
        self.assertEqual(first_filling(XOR, net_of(60, ties[:2] + pairs)), (0, 1) * 28 + (0, 0, 1, 1))

    def test_values_that_must_be_given_up_late(self):
        # The last four unknowns differ, which two of them may do only if the first unknown is 2 or 3.
        ties = [("ne", (one, other)) for one in range(56, 60) for other in range(56, one)]
        book = Book(4, {"ne": (2, rows_where(4, 2, lambda one, other: one != other)),
                        "or": (3, rows_where(4, 3, lambda one, two, last: one > 1 or two == last))})
        net = net_of(60, ties + [("or", (0, 56, 57))])
        self.assertEqual(first_filling(book, net), (2,) + (0,) * 55 + (0, 1, 2, 3))

    def test_many_applied_ties_of_three_places(self):
        source = random.Random(4)
        every = rows_where(4, 3, lambda *row: True)
        table = {name: (3, tuple(row for row in every if source.random() < 0.8)) for name in "abcdefgh"}
        book = Book(4, table)
        planted = tuple(source.randrange(4) for _ in range(60))
        ties = set()
        while len(ties) < 30000:
            unknowns = tuple(source.randrange(60) for _ in range(3))
            name = source.choice("abcdefgh")
            if tuple(planted[unknown] for unknown in unknowns) in book[name]:
                ties.add((name, unknowns))
        net = net_of(60, ties)
        self.assertIs(is_filling(book, net, planted), True)
        self.assertEqual(first_filling(book, net), planted)
        self.assertEqual(list(fillings(book, net)), [planted])

    def test_nets_of_sixty_unknowns_with_few_fillings(self):
        book = Book(2, {"even": (3, rows_where(2, 3, lambda *row: sum(row) & 1 == 0)),
                        "odd": (3, rows_where(2, 3, lambda *row: sum(row) & 1 == 1))})
        source = random.Random(5)
        for many in (40, 50, 58):
            planted = [source.randrange(2) for _ in range(60)]
            ties = []
            for _ in range(many):
                unknowns = tuple(source.sample(range(60), 3))
                ties.append(("odd" if sum(planted[unknown] for unknown in unknowns) & 1 else "even", unknowns))
            net = net_of(60, ties)
            found = list(itertools.islice(fillings(book, net), 100))
            self.assertEqual(len(found), 100 if many < 54 else len(found))
            self.assertEqual(found, sorted(set(found)))
            self.assertTrue(all(is_filling(book, net, value) for value in found))
            self.assertLessEqual(found[0], tuple(planted))


if __name__ == "__main__":
    unittest.main()
