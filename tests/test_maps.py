"""Tests of setchooser.more.maps, the maps: point 16.1, and point 0.16."""

import itertools
import random
import unittest

from helpers import (
    FORK, HORN, ODD, XOR, Checks, all_fillings, nested, net_of, no_nets, random_book, random_net, rounds,
    same, strange_values)
from setchooser.base.books import Book
from setchooser.base.fillings import first_filling, is_filling
from setchooser.base.nets import Net
from setchooser.choose.setnets import lists_as_map, set_net
from setchooser.errors import InvalidNet, InvalidOperation
from setchooser.more import maps as module
from setchooser.more.maps import first_net_map, is_net_map, led_back
from setchooser.strike.strikes import emptied, is_strikes, strikes

FULL = FORK.with_tie("yes", (0,))
TREE = Net(4, (("if", (0, 1)), ("if", (3, 2)), ("nand", (1, 2)), ("yes", (0,)), ("yes", (3,))))
LOOP = Net(1, (("xor", (0, 0)),))


def edges(size, pairs):
    """A net with the tie xor at these pairs in both orders."""
    return net_of(size, [("xor", pair) for one, other in pairs for pair in ((one, other), (other, one))])


def ring(size):
    return edges(size, [(at, (at + 1) % size) for at in range(size)])


def whole(size):
    return edges(size, itertools.combinations(range(size), 2))


def values_net(book):
    """The net of the values of a book, with each tie applied to each of its rows."""
    return net_of(book.size, [(name, row) for name in book for row in book[name]])


def maps_by_force(one, other):
    return [moved for moved in itertools.product(range(other.size), repeat=one.size)
            if all((name, tuple(moved[at] for at in unknowns)) in other.ties for name, unknowns in one.ties)]


def drawn_nets(source, many):
    """Pairs of nets with the same names, some of them without unknowns or without ties."""
    for _ in range(many):
        book = Book(1, {name: (places, ()) for name, places in zip("abc", source.choices((1, 2, 3), k=3))})
        yield (random_net(source, book, source.randint(0, 4), source.randint(0, 4)),
               random_net(source, book, source.randint(0, 4), source.randint(0, 25)))


class Examples(unittest.TestCase):
    def test_the_examples_of_stage_16_on_maps(self):
        self.assertEqual([first_net_map(ODD, LOOP), first_net_map(FORK, ODD)], [(0, 0, 0), None])
        self.assertIs(is_net_map(TREE, FULL, (0, 1, 2, 0)), True)
        self.assertEqual(led_back(TREE, FULL, (0, 1, 2, 0), ("a", "b", "c")), ('a', 'b', 'c', 'a'))

    def test_the_place_of_the_functions(self):
        for name in ("is_net_map", "first_net_map", "led_back", "is_tree", "fill_tree", "tree_paper", "is_tree_paper"):
            self.assertEqual(getattr(module, name).__module__, "setchooser.more.maps")


class Errors(unittest.TestCase, Checks):
    def test_wrong_arguments(self):
        net = (no_nets, InvalidNet)
        self.refuses(is_net_map, (TREE, FULL, (0, 1, 2, 0)), [net, net, None])
        self.refuses(first_net_map, (TREE, FULL), [net, net])
        no_maps = (lambda: self.no_maps(), InvalidOperation)
        no_values = (lambda: self.no_values(), InvalidOperation)
        self.refuses(led_back, (TREE, FULL, (0, 1, 2, 0), ("a", "b", "c")), [net, net, no_maps, no_values])

    def no_maps(self):
        near = [(0, 1, 2), (0, 1, 2, 0, 0), (0, 1, 2, 3), (0, 1, 2, -1), (0, 1, 2, False), (0, True, 2, 0),
                [0, 1, 2, 0], (0, 1, 2, [0]), (0, 2, 1, 0), (1, 1, 2, 0), (0, 1, 2, None), (0, 1, 2, 10 ** 99)]
        return near + strange_values()

    def no_values(self):
        near = [("a", "b"), ("a", "b", "c", "d"), ["a", "b", "c"], "abc", {0: "a", 1: "b", 2: "c"}, ()]
        return near + [value for value in strange_values() if not (isinstance(value, tuple) and len(value) == 3)]

    def test_the_first_wrong_one_of_the_map_and_the_values(self):
        # Both raise the same error, so a right map with wrong values and the other way round are to be told apart.
        self.fails(InvalidOperation, led_back, TREE, FULL, (0, 1, 2, 0), ())
        self.fails(InvalidOperation, led_back, TREE, FULL, (), ("a", "b", "c"))
        self.fails(InvalidNet, led_back, TREE, None, (), ())


class Judged(unittest.TestCase):
    def test_every_value_is_judged(self):
        for value in strange_values():
            self.assertIs(is_net_map(Net(2, ()), Net(2, ()), value), any(
                same(value, moved) for moved in itertools.product((0, 1), repeat=2)))
            self.assertIs(is_net_map(Net(0, ()), ODD, value), same(value, ()))
            self.assertIs(is_net_map(LOOP, ODD, value), False)
            self.assertIs(is_net_map(ODD, LOOP, value), same(value, (0, 0, 0)))

    def test_tuples_near_net_maps(self):
        for moved in ((0, 1, 2), (0, 1, 2, 0, 0), (0, 1, 2, 3), (0, 1, 2, -1), (0, 1, 2, False), (0, True, 2, 0),
                      [0, 1, 2, 0], (0, 2, 1, 0), (3, 1, 2, 0), (0, 1, 2, 10 ** 60), (0, 1, 2, None), (nested(9),) * 4):
            self.assertIs(is_net_map(TREE, FULL, moved), False, moved)
        # The tie is applied, but to other unknowns or in another order, or under another name.
        self.assertIs(is_net_map(Net(2, (("if", (0, 1)),)), FORK, (1, 0)), False)
        self.assertIs(is_net_map(Net(2, (("yes", (0,)),)), FULL, (1, 0)), False)
        self.assertIs(is_net_map(Net(2, (("iff", (0, 1)),)), FORK, (0, 1)), False)
        self.assertIs(is_net_map(Net(2, (("if", (0, 1)), ("nand", (0, 1)))), FORK, (0, 1)), False)
        self.assertIs(is_net_map(Net(1, (("if", (0,)),)), FORK, (0,)), False)
        self.assertIs(is_net_map(Net(2, (("if", (0, 1)),)), FORK, (0, 1)), True)

    def test_an_unknown_twice_in_one_applied_tie(self):
        self.assertIs(is_net_map(LOOP, Net(2, (("xor", (0, 1)),)), (0,)), False)
        self.assertIs(is_net_map(LOOP, Net(2, (("xor", (1, 1)),)), (1,)), True)
        self.assertIs(is_net_map(LOOP, Net(2, (("xor", (1, 1)),)), (0,)), False)
        three = Net(2, (("t", (0, 1, 0)),))
        self.assertEqual(first_net_map(three, Net(3, (("t", (0, 1, 2)), ("t", (2, 2, 1))))), None)
        self.assertEqual(first_net_map(three, Net(3, (("t", (0, 1, 2)), ("t", (2, 1, 2))))), (2, 1))

    def test_all_tuples_by_force(self):
        source = random.Random(111)
        right = 0
        for one, other in drawn_nets(source, 60):
            told = maps_by_force(one, other)
            right += len(told)
            for moved in itertools.product(range(other.size), repeat=one.size):
                self.assertIs(is_net_map(one, other, moved), moved in told)
        self.assertGreater(right, 100)


class First(unittest.TestCase):
    def test_the_first_one_by_force(self):
        source = random.Random(112)
        counts = {True: 0, False: 0}
        later = 0
        for one, other in drawn_nets(source, 400):
            told = maps_by_force(one, other)
            first = first_net_map(one, other)
            self.assertTrue(same(first, told[0] if told else None))
            counts[bool(told)] += 1
            later += bool(told) and any(first)
        self.assertGreater(min(*counts.values(), later), 25)

    def test_nets_without_unknowns_or_ties(self):
        none = Net(0, ())
        self.assertEqual(first_net_map(none, none), ())
        self.assertEqual(first_net_map(none, FORK), ())
        self.assertEqual(first_net_map(FORK, none), None)
        self.assertEqual(first_net_map(Net(2, ()), none), None)
        self.assertEqual(first_net_map(Net(60, ()), Net(1, ())), (0,) * 60)
        self.assertEqual(first_net_map(Net(2, ()), FORK), (0, 0))
        self.assertEqual(first_net_map(FORK, Net(60, ())), None)
        self.assertEqual(first_net_map(FORK, FORK), (0, 1, 2))

    def test_a_name_with_unlike_numbers_of_places(self):
        both = Net(3, (("t", (0,)), ("t", (0, 1)), ("t", (0, 1, 2))))
        self.assertEqual(first_net_map(both, both), (0, 1, 2))
        self.assertEqual(first_net_map(Net(1, (("t", (0,)),)), Net(3, (("t", (0, 1)), ("t", (2,))))), (2,))
        self.assertEqual(first_net_map(both, Net(3, (("t", (0, 1)), ("t", (0, 1, 2))))), None)

    def test_rings(self):
        self.assertEqual(first_net_map(ring(3), ring(5)), None)
        self.assertEqual(first_net_map(ring(5), ring(3)), (0, 1, 0, 1, 2))
        self.assertEqual(first_net_map(ring(57), ring(59)), None)
        self.assertEqual(first_net_map(ring(59), ring(59)), tuple(range(59)))
        self.assertEqual(first_net_map(ring(60), ring(59)), (0, 1) * 30)
        self.assertEqual(first_net_map(ring(59), whole(3)), (0, 1) * 29 + (2,))

    def test_whole_nets(self):
        self.assertEqual(first_net_map(whole(7), whole(6)), None)
        self.assertEqual(first_net_map(whole(60), whole(60)), tuple(range(60)))
        self.assertEqual(first_net_map(whole(4).mapped((3, 5, 7, 9), 10), whole(4)), (0, 0, 0, 0, 0, 1, 0, 2, 0, 3))

    def test_many_applied_ties(self):
        source = random.Random(113)
        net = net_of(60, [("abcdefgh"[at % 8], tuple(source.randrange(60) for _ in range(3))) for at in range(8000)])
        self.assertEqual(first_net_map(net, net), tuple(range(60)))
        turned = net.mapped(tuple(range(59, -1, -1)), 60)
        self.assertEqual(first_net_map(net, turned), tuple(range(59, -1, -1)))
        less = net.without_tie(*net.ties[4000])
        self.assertEqual(first_net_map(net, less), None)
        self.assertIs(is_net_map(net, less, tuple(range(60))), False)
        self.assertIs(is_net_map(less, net, tuple(range(60))), True)


class Statements(unittest.TestCase):
    def test_nets_that_map_to_the_set_net_and_to_the_values(self):
        source = random.Random(114)
        counts = {}
        for _ in range(150):
            book = random_book(source, source.randint(1, 3), source.randint(0, 3), 0.45, places=(1, 2, 2))
            net = random_net(source, book, source.randint(0, 5), source.randint(0, 6))
            whole_lists = emptied(book, net) is None
            self.assertIs(first_net_map(net, set_net(book)) is not None, whole_lists)
            if whole_lists:
                self.assertIs(is_net_map(net, set_net(book), lists_as_map(book, net)), True)
            self.assertEqual(first_net_map(net, values_net(book)), first_filling(book, net))
            key = (whole_lists, first_filling(book, net) is not None)
            counts[key] = counts.get(key, 0) + 1
        self.assertEqual(sorted(counts), [(False, False), (True, False), (True, True)])
        self.assertEqual(first_net_map(ODD, values_net(XOR)), None)
        self.assertIsNotNone(first_net_map(ODD, set_net(XOR)))

    def test_large_nets_that_map_to_the_set_net_and_to_the_values(self):
        source = random.Random(115)
        book = Book(4, {"ne": (2, tuple(row for row in itertools.product(range(4), repeat=2) if row[0] != row[1])),
                        "sum": (3, tuple(row for row in itertools.product(range(4), repeat=3) if sum(row) % 3 < 2))})
        for many in (30, 80, 110):
            net = random_net(source, book, 60, many)
            self.assertEqual(first_net_map(net, values_net(book)), first_filling(book, net))
            self.assertIs(first_net_map(net, set_net(book)) is None, emptied(book, net) is not None)
        net = edges(60, [tuple(source.sample(range(60), 2)) for _ in range(90)])
        self.assertEqual(first_net_map(net, whole(3)), first_filling(Book(3, {"xor": (2, tuple(
            row for row in itertools.product(range(3), repeat=2) if row[0] != row[1]))}), net))

    def test_fillings_are_led_back_and_strikes_on(self):
        source = random.Random(116)
        many = struck = 0
        for _ in range(150):
            book = random_book(source, source.randint(1, 3), 3, 0.5, places=(1, 2, 2))
            one = random_net(source, book, source.randint(0, 4), 3)
            other = random_net(source, book, source.randint(0, 4), 12)
            for moved in maps_by_force(one, other)[:10]:
                for values in all_fillings(book, other):
                    many += 1
                    self.assertIs(is_filling(book, one, led_back(one, other, moved, values)), True)
                left = rounds(book, other)[1]
                for (unknown, value) in strikes(book, one):
                    struck += 1
                    self.assertIn((moved[unknown], value), left)
        self.assertGreater(min(many, struck), 100)
        self.assertIs(is_strikes(HORN, FULL, strikes(HORN, FULL)), True)

    def test_anything_is_led_back(self):
        for value in strange_values():
            told = led_back(TREE, FULL, (0, 1, 2, 0), (value, "b", None))
            self.assertEqual(told[1:3], ("b", None))
            self.assertIs(told[0], value)
            self.assertIs(told[3], value)
        self.assertEqual(led_back(Net(0, ()), FULL, (), (1, [2], {})), ())
        self.assertEqual(led_back(Net(0, ()), Net(0, ()), (), ()), ())
        self.assertEqual(led_back(Net(2, ()), Net(3, ()), (2, 2), (1, [2], {})), ({}, {}))


if __name__ == "__main__":
    unittest.main()
