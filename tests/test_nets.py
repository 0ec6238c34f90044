"""Tests of setchooser.base.nets: points 0.2, 0.4, 0.8, 1.3 and stage 3."""

import random
import unittest

from helpers import (
    FORK, HORN, RING, STEP, XOR, Checks, net_of, no_books, no_names, no_nets, random_book, random_net, same,
    strange_values)
from setchooser.base import nets
from setchooser.base.books import Book
from setchooser.base.nets import MAX_APPLIED, MAX_UNKNOWNS, Net, belongs
from setchooser.errors import InvalidBook, InvalidName, InvalidNet, InvalidNumber, InvalidOperation

EMPTY = Net(0, ())


def many_ties(many):
    """So many applied ties at sixty unknowns, ascending."""
    ties = [("a", (one, other, last)) for one in range(60) for other in range(60) for last in range(60)]
    return tuple(ties[:many])


def no_unknowns_of(net):
    return [value for value in strange_values()
            if isinstance(value, bool) or not isinstance(value, int) or not 0 <= value < net.size]


class Examples(unittest.TestCase):
    def test_the_examples_of_stage_3(self):
        self.assertEqual(
            [FORK.size, FORK.names, len(FORK), ("nand", (1, 2)) in FORK, str(FORK), belongs(HORN, FORK),
             belongs(XOR, FORK)],
            [3, ('if', 'nand'), 3, True, 'net of 3 unknowns, 3 ties', True, False])
        self.assertEqual(
            [FORK.with_tie("yes", (0,)).ties[-1], FORK.made_one(1, 2).ties, FORK.mapped((0, 0, 1), 2).ties,
             (FORK + FORK).ties[1], FORK.without_tie("if", (0, 1)).ties],
            [('yes', (0,)), (('if', (0, 1)), ('nand', (1, 1))),
             (('if', (0, 0)), ('if', (0, 1)), ('nand', (0, 1))), ('if', (0, 2)),
             (('if', (0, 2)), ('nand', (1, 2)))])

    def test_the_constants_and_the_place_of_class_and_function(self):
        self.assertEqual((MAX_UNKNOWNS, MAX_APPLIED), (60, 30000))
        self.assertEqual((Net.__module__, belongs.__module__), (nets.__name__, nets.__name__))
        for name in ("__contains__", "__len__", "__eq__", "__str__", "__iter__", "__add__", "with_tie", "without_tie",
                     "with_unknowns", "made_one", "mapped"):
            self.assertIn(name, vars(Net))


class Creation(unittest.TestCase, Checks):
    def test_sizes(self):
        for size in (0, 1, 59, 60):
            self.assertEqual(Net(size, ()).size, size)
        for size in strange_values():
            if isinstance(size, bool) or not isinstance(size, int) or not 0 <= size <= 60:
                self.fails(InvalidNumber, Net, size, (), value=size)
                self.fails(InvalidNumber, Net, size, None, value=size)

    def test_numbers_of_applied_ties(self):
        most = many_ties(30000)
        self.assertEqual(len(Net(60, most)), 30000)
        self.fails(InvalidNet, Net, 60, many_ties(30001))
        self.assertEqual(len(Net(60, ())), 0)

    def test_right_ties(self):
        net = Net(3, (("a", (0,)), ("a", (0, 0)), ("a", (0, 0, 2)), ("a", (1, 0)), ("b", (2, 2, 2))))
        self.assertEqual(len(net), 5)
        self.assertEqual(net.names, ("a", "b"))

    def test_wrong_ties(self):
        good = ("a", (0, 1))
        for tie in (("A", (0, 1)), ("", (0, 1)), ("abcdefghi", (0, 1)), (None, (0, 1)), (1, (0, 1)), ("a", ()),
                    ("a", (0, 1, 2, 0)), ("a", (3,)), ("a", (-1,)), ("a", (True,)), ("a", (0, False)), ("a", [0, 1]),
                    ("a", 0), ("a", None), ("a", "bc"), ("a", ("b",)), ("a",), ("a", (0,), (1,)), ["a", (0, 1)], "ab",
                    None, 0, (), ("a", (10 ** 99,)), ("a", ((0,),)), FORK):
            self.fails(InvalidNet, Net, 3, (tie,))
            self.fails(InvalidNet, Net, 3, (good, tie))
        self.fails(InvalidNet, Net, 0, (good,))
        self.fails(InvalidNet, Net, 3, (("b", (0,)), ("a", (0,))))
        self.fails(InvalidNet, Net, 3, (good, good))
        for value in strange_values():
            if not same(value, ()):
                self.fails(InvalidNet, Net, 3, value)
        self.fails(InvalidNet, Net, 3, [good])
        self.fails(InvalidNet, Net, 3, {good: True})
        self.fails(InvalidNet, Net, 3, good)


class Told(unittest.TestCase):
    def test_properties(self):
        self.assertEqual((EMPTY.size, EMPTY.ties, EMPTY.names), (0, (), ()))
        self.assertEqual(FORK.ties, (("if", (0, 1)), ("if", (0, 2)), ("nand", (1, 2))))

    def test_a_net_never_changes(self):
        for name in ("size", "ties", "names"):
            with self.assertRaises(AttributeError):
                setattr(FORK, name, ())

    def test_contains(self):
        for tie in FORK.ties:
            self.assertIs(tie in FORK, True)
        for value in strange_values() + [
                ("if", (1, 0)), ("if", (False, True)), ("if", (0, True)), ("if", (1, 2)), ("if", (0,)), ("nand", (1,)),
                ("if", [0, 1]), ["if", (0, 1)], ("if", (0, 1), 0), ("zzz", (0,)), ("a", (0,)), ("if", (0, 3))]:
            if not same(value, ("if", (0, 1))):
                self.assertIs(value in FORK, False, value)
        net = Net(60, many_ties(30000))
        for tie in many_ties(30001)[::1111]:
            self.assertIs(tie in net, True)
        self.assertIs(many_ties(30001)[-1] in net, False)
        self.assertIs(("a", (0, 0)) in net, False)

    def test_len_str_and_iteration(self):
        self.assertEqual([len(EMPTY), len(Net(60, ())), len(FORK)], [0, 0, 3])
        self.assertEqual(str(Net(1, (("a", (0,)),))), "net of 1 unknowns, 1 ties")
        self.assertEqual(str(EMPTY), "net of 0 unknowns, 0 ties")
        self.assertEqual(list(FORK), list(FORK.ties))
        self.assertEqual([tie for tie in FORK for other in FORK][:4], [("if", (0, 1))] * 3 + [("if", (0, 2))])

    def test_equality(self):
        like = Net(3, (("if", (0, 1)), ("if", (0, 2)), ("nand", (1, 2))))
        self.assertIs(FORK == like, True)
        self.assertIs(FORK != like, False)
        for other in (Net(4, FORK.ties), Net(3, FORK.ties[:2]), Net(3, ()), EMPTY):
            self.assertIs(FORK == other, False)
            self.assertIs(FORK != other, True)
        seven = Net(7, FORK.ties)
        for value in strange_values():
            self.assertIs(seven == value, False)
            self.assertIs(seven != value, True)
            self.assertIs(value == seven, False)


class Changed(unittest.TestCase, Checks):
    @classmethod
    def setUpClass(cls):
        cls.full = Net(60, many_ties(30000))

    def tearDown(self):
        self.assertEqual(FORK, Net(3, (("if", (0, 1)), ("if", (0, 2)), ("nand", (1, 2)))))
        self.assertEqual(self.full.ties, many_ties(30000))

    def test_with_tie(self):
        more = FORK.with_tie("if", (0, 0))
        self.assertEqual(more.ties, (("if", (0, 0)),) + FORK.ties)
        self.assertEqual(more.size, 3)
        for tie in (("a", (2,)), ("if", (0, 1, 2)), ("if", (2, 2, 2)), ("zzz", (0,)), ("nand", (1, 1))):
            self.assertEqual(FORK.with_tie(*tie), net_of(3, FORK.ties + (tie,)))
            self.assertEqual(FORK.with_tie(*tie).without_tie(*tie), FORK)

    def test_errors_of_with_tie(self):
        for name in no_names():
            self.fails(InvalidName, FORK.with_tie, name, (0, 1))
            self.fails(InvalidName, FORK.with_tie, name, None)
        for unknowns in strange_values() + [(0, 1, 2, 0), (3,), (-1, 0), (True,), (0, False), [0], [0, 1], ("a",)]:
            if not (isinstance(unknowns, tuple) and 1 <= len(unknowns) <= 3
                    and all(type(part) is int and 0 <= part < 3 for part in unknowns)):
                self.fails(InvalidOperation, FORK.with_tie, "if", unknowns)
        for tie in FORK.ties:
            self.fails(InvalidOperation, FORK.with_tie, *tie)
        self.fails(InvalidOperation, EMPTY.with_tie, "a", (0,))

    def test_with_tie_in_a_full_net(self):
        self.fails(InvalidNet, self.full.with_tie, "b", (0,))
        self.fails(InvalidNet, self.full.with_tie, "a", (59, 59, 59))
        self.fails(InvalidOperation, self.full.with_tie, "a", (0, 0, 0))
        self.fails(InvalidOperation, self.full.with_tie, "a", (60,))
        self.fails(InvalidName, self.full.with_tie, "A", (0,))
        less = self.full.without_tie("a", (0, 0, 1))
        self.assertEqual(len(less), 29999)
        self.assertEqual(len(less.with_tie("b", (0,))), 30000)
        self.assertEqual(less.with_tie("a", (0, 0, 1)), self.full)

    def test_without_tie(self):
        self.assertEqual(FORK.without_tie("nand", (1, 2)).ties, FORK.ties[:2])
        for name in strange_values():
            self.fails(InvalidOperation, FORK.without_tie, name, (1, 2))
            self.fails(InvalidOperation, FORK.without_tie, name, None)
        for unknowns in strange_values() + [(2, 1), (1, 2, 2), (True, 2), [1, 2]]:
            self.fails(InvalidOperation, FORK.without_tie, "nand", unknowns)
        self.fails(InvalidOperation, EMPTY.without_tie, "a", ())

    def test_with_unknowns(self):
        self.assertEqual(FORK.with_unknowns(2), Net(5, FORK.ties))
        self.assertEqual(FORK.with_unknowns(0), FORK)
        self.assertEqual(FORK.with_unknowns(57).size, 60)
        for many in (58, 60, 10 ** 59):
            self.fails(InvalidNet, FORK.with_unknowns, many)
        for many in strange_values():
            if isinstance(many, bool) or not isinstance(many, int) or not 0 <= many < 10 ** 60:
                self.fails(InvalidNumber, FORK.with_unknowns, many, value=many)

    def test_made_one(self):
        self.assertEqual(FORK.made_one(1, 1), FORK)
        self.assertEqual(FORK.made_one(2, 1).ties, (("if", (0, 2)), ("nand", (2, 2))))
        self.assertEqual(FORK.made_one(2, 1).size, 3)
        self.assertEqual(FORK.made_one(1, 0).ties, (("if", (1, 1)), ("if", (1, 2)), ("nand", (1, 2))))
        for value in no_unknowns_of(FORK):
            self.fails(InvalidNumber, FORK.made_one, value, 1, value=value)
            self.fails(InvalidNumber, FORK.made_one, 1, value, value=value)
            self.fails(InvalidNumber, FORK.made_one, value, None, value=value)
        self.fails(InvalidNumber, EMPTY.made_one, 0, 0, value=0)

    def test_mapped(self):
        self.assertEqual(FORK.mapped((0, 1, 2), 3), FORK)
        self.assertEqual(FORK.mapped((2, 1, 0), 5), Net(5, (("if", (2, 0)), ("if", (2, 1)), ("nand", (1, 0)))))
        self.assertEqual(FORK.mapped((0, 0, 0), 1).ties, (("if", (0, 0)), ("nand", (0, 0))))
        self.assertEqual(EMPTY.mapped((), 0), EMPTY)
        self.assertEqual(EMPTY.mapped((), 60), Net(60, ()))

    def test_errors_of_mapped(self):
        for unknowns in strange_values() + [(0, 1, True), (0, 1), (0, 1, 2, 0), (0, 1, -1), [0, 1, 2], (0, 1, None),
                                            (0, 1, 10 ** 60)]:
            if not same(unknowns, (0, 0, 0)):
                self.fails(InvalidOperation, FORK.mapped, unknowns, 3)
                self.fails(InvalidOperation, FORK.mapped, unknowns, None)
        for size in strange_values():
            if isinstance(size, bool) or not isinstance(size, int) or not 0 <= size <= 60:
                self.fails(InvalidNumber, FORK.mapped, (0, 1, 2), size, value=size)
                self.fails(InvalidNumber, FORK.mapped, (0, 1, 10 ** 59), size, value=size)
        self.fails(InvalidOperation, FORK.mapped, (0, 1, 2), 2)
        self.fails(InvalidOperation, FORK.mapped, (0, 1, 10 ** 59), 60)
        self.fails(InvalidOperation, FORK.mapped, (0, 0, 0), 0)
        # No tie is applied to the last unknown, but it would be moved to none.
        self.fails(InvalidOperation, Net(2, (("a", (0,)),)).mapped, (0, 1), 1)

    def test_sums(self):
        self.assertEqual(FORK + EMPTY, FORK)
        self.assertEqual(EMPTY + FORK, FORK)
        both = Net(2, (("b", (0, 1)),)) + Net(1, (("a", (0,)), ("c", (0, 0))))
        self.assertEqual(both, Net(3, (("a", (2,)), ("b", (0, 1)), ("c", (2, 2)))))
        self.assertEqual((Net(30, ()) + Net(30, ())).size, 60)
        for other in strange_values():
            if not isinstance(other, Net):
                self.fails(InvalidOperation, lambda: FORK + other)
                self.fails(InvalidOperation, lambda: other + FORK)
        self.fails(InvalidNet, lambda: Net(30, ()) + Net(31, ()))
        self.fails(InvalidNet, lambda: self.full + Net(1, ()))
        half = net_of(30, [("a", (one, other, last)) for one in range(30) for other in range(30)
                           for last in range(30)][:15001])
        self.fails(InvalidNet, lambda: half + half)
        self.assertEqual(len(half + half.without_tie("a", (0, 0, 0)).without_tie("a", (0, 0, 1))), 30000)


class Belongs(unittest.TestCase, Checks):
    def test_belongs(self):
        self.assertIs(belongs(STEP, Net(1, (("less", (0, 0)),))), True)
        self.assertIs(belongs(RING, EMPTY), True)
        self.assertIs(belongs(Book(1, {}), Net(60, ())), True)
        self.assertIs(belongs(Book(1, {}), FORK), False)
        self.assertIs(belongs(HORN, Net(2, (("if", (0,)),))), False)
        self.assertIs(belongs(HORN, Net(2, (("yes", (0, 1)),))), False)
        self.assertIs(belongs(HORN, Net(2, (("if", (0, 1)), ("or", (0, 1))))), False)
        self.assertIs(belongs(HORN, Net(2, (("if", (0, 1)), ("if", (0, 1, 1))))), False)

    def test_errors(self):
        self.refuses(belongs, (HORN, FORK), [(no_books, InvalidBook), (no_nets, InvalidNet)])

    def test_random_nets_belong(self):
        source = random.Random(2)
        for _ in range(30):
            book = random_book(source, source.randint(1, 4), source.randint(1, 8))
            net = random_net(source, book, source.randint(1, 9), 20)
            self.assertIs(belongs(book, net), True)
            self.assertIs(belongs(book.without_tie(book.names[0]), net), book.names[0] not in net.names)


if __name__ == "__main__":
    unittest.main()
