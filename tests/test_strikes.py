"""Tests of setchooser.strike.strikes: points 0.10, 0.14, 0.19 and stage 5."""

import itertools
import random
import unittest

from helpers import (
    FORK, HORN, ODD, RING, STEP, XOR, Checks, all_fillings, net_of, no_books, no_nets, random_book, random_net,
    rounds, rows_where, same, strange_values)
from setchooser.base.books import Book
from setchooser.base.nets import Net
from setchooser.errors import InvalidBook, InvalidNet, InvalidOperation
from setchooser.strike import strikes as module
from setchooser.strike.strikes import are_lists, emptied, is_strikes, lists, strikes

ONE = FORK.with_tie("yes", (1,))
FULL = FORK.with_tie("yes", (0,))


def are_such_lists(book, net, value):
    for name, unknowns in net.ties:
        for place, unknown in enumerate(unknowns):
            for listed in value[unknown]:
                if not any(row[place] == listed and all(row[at] in value[other] for at, other in enumerate(unknowns))
                           for row in book[name]):
                    return False
    return True


def are_such_strikes(book, net, value):
    def is_struck(row, place, unknowns, rank):
        return any((unknowns[at], row[at]) in value and value[unknowns[at], row[at]] < rank
                   for at in range(len(row)) if at != place)
    for (unknown, struck), rank in value.items():
        if not any(unknowns[place] == unknown and all(
                is_struck(row, place, unknowns, rank) for row in book[name] if row[place] == struck)
                for name, unknowns in net.ties for place in range(len(unknowns))):
            return False
    return True


class Examples(unittest.TestCase):
    def test_the_examples_of_stage_5(self):
        self.assertEqual(
            [lists(HORN, FORK), lists(HORN, ONE), strikes(HORN, ONE), emptied(HORN, FULL)],
            [((0, 1), (0, 1), (0, 1)), ((0,), (1,), (0,)), {(0, 1): 3, (1, 0): 1, (2, 1): 2}, 0])
        self.assertEqual(
            [lists(STEP, Net(3, (("less", (0, 1)), ("less", (1, 2))))), lists(XOR, ODD),
             are_lists(HORN, FORK, ((0,), (0,), (0,))), are_lists(HORN, FORK, ((1,), (1,), (1,)))],
            [((0,), (1,), (2,)), ((0, 1), (0, 1), (0, 1)), True, False])

    def test_the_place_of_the_functions(self):
        for name in ("lists", "strikes", "are_lists", "is_strikes", "emptied"):
            self.assertEqual(getattr(module, name).__module__, "setchooser.strike.strikes")


class Errors(unittest.TestCase, Checks):
    def test_wrong_arguments(self):
        bad = [(no_books, InvalidBook), (no_nets, InvalidNet)]
        for call in (lists, strikes, emptied):
            self.refuses(call, (HORN, FORK), bad)
        for call, value in ((are_lists, ((0,), (0,), (0,))), (is_strikes, {})):
            self.refuses(call, (HORN, FORK, value), bad + [None])

    def test_the_net_belongs_to_the_book(self):
        for call in (lists, strikes, emptied):
            self.fails(InvalidOperation, call, XOR, FORK)
            self.fails(InvalidOperation, call, HORN, Net(1, (("if", (0,)),)))
        for value in strange_values():
            self.fails(InvalidOperation, are_lists, XOR, FORK, value)
            self.fails(InvalidOperation, is_strikes, XOR, FORK, value)


class Struck(unittest.TestCase):
    def check(self, book, net):
        left, ranks = rounds(book, net)
        self.assertEqual(lists(book, net), left)
        self.assertEqual(strikes(book, net), ranks)
        self.assertEqual(list(strikes(book, net)), sorted(ranks))
        empty = [unknown for unknown, taken in enumerate(left) if not taken]
        self.assertEqual(emptied(book, net), empty[0] if empty else None)
        self.assertIs(are_lists(book, net, left), True)
        self.assertIs(is_strikes(book, net, ranks), True)
        return left

    def test_rounds_counted_by_hand(self):
        # yes strikes 0 of unknown 1; then nand strikes 1 of unknown 2; then if strikes 1 of unknown 0.
        self.assertEqual(strikes(HORN, ONE), {(0, 1): 3, (1, 0): 1, (2, 1): 2})
        # In round 1 both ends of each tie lose a value; in round 2 what rests on these; then nothing.
        row = Net(3, (("less", (0, 1)), ("less", (1, 2))))
        self.assertEqual(strikes(STEP, row), {(0, 1): 2, (0, 2): 1, (1, 0): 1, (1, 2): 1, (2, 0): 1, (2, 1): 2})
        # A fourth unknown: in round 3 nothing is left.
        row = Net(4, (("less", (0, 1)), ("less", (1, 2)), ("less", (2, 3))))
        self.assertEqual(strikes(STEP, row), {(0, 0): 3, (0, 1): 2, (0, 2): 1, (1, 0): 1, (1, 1): 2, (1, 2): 1,
                                              (2, 0): 1, (2, 1): 2, (2, 2): 1, (3, 0): 1, (3, 1): 2, (3, 2): 3})
        self.assertEqual(strikes(HORN, FORK), {})
        self.assertEqual(strikes(HORN, FULL), {(0, 0): 1, (0, 1): 4, (1, 0): 2, (1, 1): 3, (2, 0): 2, (2, 1): 3})

    def test_striking_goes_on_past_an_empty_list(self):
        book = Book(2, {"never": (1, ()), "any": (2, rows_where(2, 2, lambda *row: True))})
        net = Net(4, (("any", (0, 1)), ("any", (1, 2)), ("never", (0,))))
        self.assertEqual(lists(book, net), ((), (), (), (0, 1)))
        self.assertEqual(strikes(book, net), {(0, 0): 1, (0, 1): 1, (1, 0): 2, (1, 1): 2, (2, 0): 3, (2, 1): 3})
        self.assertEqual(emptied(book, net), 0)
        self.assertEqual(emptied(book, net.without_tie("any", (0, 1)).made_one(3, 0)), 3)

    def test_a_tie_without_rows(self):
        book = Book(3, {"never": (3, ())})
        self.assertEqual(strikes(book, Net(4, (("never", (1, 3, 1)),))),
                         {(1, 0): 1, (1, 1): 1, (1, 2): 1, (3, 0): 1, (3, 1): 1, (3, 2): 1})
        self.assertEqual(emptied(book, Net(4, (("never", (1, 3, 1)),))), 1)

    def test_unknowns_that_stand_twice(self):
        # Each value stands at both places in some row, though no row has it at both.
        self.assertEqual(lists(XOR, Net(1, (("xor", (0, 0)),))), ((0, 1),))
        # 0 stands at the second place in no row, 3 at the first one.
        book = Book(4, {"next": (2, ((0, 1), (1, 2), (2, 3)))})
        self.assertEqual(strikes(book, Net(1, (("next", (0, 0)),))), {(0, 0): 1, (0, 1): 2, (0, 2): 2, (0, 3): 1})
        self.assertEqual(lists(book, Net(2, (("next", (0, 0)), ("next", (0, 1))))), ((), ()))

    def test_no_unknowns_and_no_ties(self):
        none = Net(0, ())
        self.assertEqual((lists(HORN, none), strikes(HORN, none), emptied(HORN, none)), ((), {}, None))
        self.assertEqual(lists(Book(1, {}), Net(3, ())), ((0,),) * 3)

    def test_small_nets_against_rounds(self):
        source = random.Random(9)
        empty = 0
        for _ in range(300):
            book = random_book(source, source.randint(1, 4), source.randint(0, 5), source.choice((0.2, 0.4, 0.6)))
            net = random_net(source, book, source.randint(0, 8), source.randint(0, 14))
            left = self.check(book, net)
            empty += () in left
            self.assertEqual(lists(book, net), left)
            if net.size < 6:
                for filling in all_fillings(book, net):
                    self.assertTrue(all(value in left[unknown] for unknown, value in enumerate(filling)))
        self.assertGreater(empty, 50)

    def test_nets_beside_one_another(self):
        for one, other in ((FORK, ONE), (ONE, FULL), (FULL, FORK)):
            self.assertEqual(lists(HORN, one + other), lists(HORN, one) + lists(HORN, other))

    def test_renamed_ties_and_turned_values_change_nothing(self):
        turned = HORN.turned((1, 0))
        self.assertEqual(lists(turned, ONE), ((1,), (0,), (1,)))
        names = {"if": "nand", "nand": "if"}
        net = net_of(3, [(names.get(name, name), unknowns) for name, unknowns in ONE])
        self.assertEqual(strikes(HORN.renamed(names), net), strikes(HORN, ONE))

    def test_long_chains(self):
        book = Book(4, {"upto": (2, rows_where(4, 2, lambda one, other: one <= other)), "top": (1, ((3,),))})
        net = net_of(60, [("upto", (unknown, unknown + 1)) for unknown in range(59)] + [("top", (0,))])
        self.assertEqual(lists(book, net), ((3,),) * 60)
        self.assertEqual(strikes(book, net)[59, 0], 60)
        ring = [("less" if unknown == 30 else "upto", (unknown, (unknown + 1) % 60)) for unknown in range(60)]
        self.check(STEP, net_of(60, ring))

    def test_many_applied_ties(self):
        source = random.Random(10)
        every = rows_where(4, 3, lambda *row: True)
        for chance in (0.3, 0.9):
            book = Book(4, {name: (3, tuple(row for row in every if source.random() < chance)) for name in "abcdefgh"})
            ties = {(source.choice("abcdefgh"), tuple(source.randrange(60) for _ in range(3))) for _ in range(29000)}
            net = net_of(60, ties)
            left = lists(book, net)
            ranks = strikes(book, net)
            self.assertIs(are_lists(book, net, left), True)
            self.assertIs(is_strikes(book, net, ranks), True)
            self.assertEqual({(unknown, value) for unknown in range(60) for value in range(4)} - set(ranks),
                             {(unknown, value) for unknown in range(60) for value in left[unknown]})


class Lists(unittest.TestCase):
    def test_every_value_is_judged(self):
        every = ((0, 1),) * 3
        for value in strange_values():
            self.assertIs(are_lists(HORN, FORK, value), same(value, every))
            self.assertIs(are_lists(STEP, Net(0, ()), value), same(value, ()))
            self.assertIs(are_lists(HORN, FORK, (value, (0, 1), (0, 1))), same(value, (0, 1)) or same(value, (0,)))

    def test_values_near_lists(self):
        for value in (((0,), (0,)), ((0,),) * 4, [(0,)] * 3, ([0], (0,), (0,)), ((False,), (0,), (0,)),
                      ((1, 0), (0, 1), (0, 1)), ((0, 0), (0,), (0,)), ((0, 2), (0,), (0,)), ((-1,), (0,), (0,)),
                      (0, 0, 0), (None, (0,), (0,)), ((0,), (0,), ()), ((0,), (1,), (1,))):
            self.assertIs(are_lists(HORN, FORK, value), False, value)

    def test_lists_that_the_package_did_not_make(self):
        for value in (((),) * 3, ((0,), (0,), (0,)), ((0,), (1,), (0,)), ((0, 1),) * 3, ((0,), (0, 1), (0, 1))):
            self.assertIs(are_lists(HORN, FORK, value), True, value)
        self.assertIs(are_lists(XOR, Net(1, (("xor", (0, 0)),)), ((0, 1),)), True)
        self.assertIs(are_lists(XOR, Net(1, (("xor", (0, 0)),)), ((0,),)), False)
        self.assertIs(are_lists(HORN, Net(2, ()), ((), (1,))), True)
        for taken in ((2,), (0, 2), (0, 1, 2), (True,), (1, 0), [1], None):
            self.assertIs(are_lists(HORN, Net(2, ()), ((), taken)), False)

    def test_all_lists_of_small_nets(self):
        source = random.Random(11)
        right = 0
        for _ in range(60):
            book = random_book(source, source.randint(1, 3), source.randint(1, 3), 0.6)
            net = random_net(source, book, source.randint(1, 3), 3)
            every = [taken for many in range(book.size + 1) for taken in itertools.combinations(range(book.size), many)]
            left = lists(book, net)
            for value in itertools.product(every, repeat=net.size):
                judged = are_such_lists(book, net, value)
                self.assertIs(are_lists(book, net, value), judged)
                if judged:
                    right += 1
                    self.assertTrue(all(set(one) <= set(other) for one, other in zip(value, left)))
        self.assertGreater(right, 200)


class Strikes(unittest.TestCase):
    def test_every_value_is_judged(self):
        for value in strange_values():
            self.assertIs(is_strikes(HORN, FORK, value), same(value, {}))
            self.assertIs(is_strikes(HORN, ONE, {(1, 0): value}),
                          isinstance(value, int) and not isinstance(value, bool) and 1 <= value < 10 ** 60)
        for value in ((1, 0), (0, 1), (0, 0), (1, 1), (2, 0), (2, 1), (True, 0), (1, False), (1,), (1, 0, 0), 1, None,
                      "ab", (1, 2), (3, 0), (-1, 0), (1, -1), ("a", 0), (10 ** 99, 0)):
            self.assertIs(is_strikes(HORN, ONE, {value: 1}), same(value, (1, 0)), value)

    def test_dicts_that_the_package_did_not_make(self):
        for value in ({}, {(1, 0): 1}, {(1, 0): 7}, {(1, 0): 2, (2, 1): 3}, {(2, 1): 10 ** 60 - 1, (1, 0): 4},
                      {(1, 0): 1, (2, 1): 2, (0, 1): 3}, {(0, 1): 9, (2, 1): 8, (1, 0): 5}):
            self.assertIs(is_strikes(HORN, ONE, value), True, value)
        book = Book(2, {"never": (2, ())})
        self.assertIs(is_strikes(book, Net(2, (("never", (0, 1)),)), {(0, 0): 5, (1, 1): 1}), True)
        # The tie has no rows at all only if it is applied.
        self.assertIs(is_strikes(book, Net(2, ()), {(0, 0): 5}), False)

    def test_dicts_near_strikes(self):
        for value in ({(1, 0): 0}, {(1, 0): True}, {(1, 0): None}, {(1, 0): 10 ** 60}, {(1, 0): -1}, {(1, 0): "1"},
                      {(2, 1): 2}, {(1, 0): 1, (2, 1): 1}, {(1, 0): 2, (2, 1): 1}, {(1, 0): 1, (0, 1): 3},
                      {(1, 1): 1}, {(1, 0): 1, (1, 1): 2}, {(1, 0): 1, (0, 0): 4}, {(1, 0): 1, (True, 1): 2},
                      [((1, 0), 1)], (((1, 0), 1),), {(1, 0): (1,)}):
            self.assertIs(is_strikes(HORN, ONE, value), False, value)

    def test_unknowns_that_stand_twice(self):
        book = Book(4, {"next": (2, ((0, 1), (1, 2), (2, 3)))})
        net = Net(1, (("next", (0, 0)),))
        for value, right in (({(0, 0): 1}, True), ({(0, 1): 1}, False), ({(0, 1): 2, (0, 0): 1}, True),
                             ({(0, 1): 2, (0, 3): 1}, False), ({(0, 2): 2, (0, 3): 1}, True),
                             ({(0, 0): 1, (0, 1): 2, (0, 2): 3, (0, 3): 4}, True),
                             ({(0, 0): 4, (0, 1): 3, (0, 2): 2, (0, 3): 1}, True),
                             ({(0, 0): 1, (0, 1): 1}, False)):
            self.assertIs(is_strikes(book, net, value), right, value)
        # A value does not show itself.
        self.assertIs(is_strikes(XOR, Net(1, (("xor", (0, 0)),)), {(0, 0): 1, (0, 1): 2}), False)

    def test_dicts_of_small_nets(self):
        source = random.Random(12)
        right = wrong = 0
        for _ in range(150):
            book = random_book(source, source.randint(1, 3), source.randint(1, 3), 0.4)
            net = random_net(source, book, source.randint(1, 4), 5)
            ranks = strikes(book, net)
            pairs = [(unknown, value) for unknown in range(net.size) for value in range(book.size)]
            for _ in range(20):
                value = dict(ranks)
                for pair in source.sample(pairs, min(len(pairs), source.randint(0, 3))):
                    if source.random() < 0.5:
                        value.pop(pair, None)
                    else:
                        value[pair] = source.randint(1, 4)
                judged = are_such_strikes(book, net, value)
                right += judged
                wrong += not judged
                self.assertIs(is_strikes(book, net, value), judged)
                if judged:
                    self.assertTrue(set(value) <= set(ranks))
                    self.assertTrue(all(ranks[pair] <= value[pair] for pair in value))
        self.assertGreater(min(right, wrong), 300)

    def test_rings_that_nothing_empties(self):
        self.assertEqual(strikes(RING, Net(3, (("beats", (0, 1)), ("beats", (1, 2))))), {})


if __name__ == "__main__":
    unittest.main()
