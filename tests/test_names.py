"""Tests of setchooser.base.names: points 0.1 and 0.7, is_integer, is_name, is_set."""

import unittest

from helpers import FORK, HORN, strange_values
from setchooser.base import names
from setchooser.base.names import MAX_LETTERS, is_integer, is_name, is_set


class Examples(unittest.TestCase):
    def test_the_example_of_the_document(self):
        self.assertEqual(
            [is_integer(-3), is_integer(True), is_name("less"), is_name("Less"), is_set((0, 2)), is_set((2, 0)),
             is_set(()), is_set([0])],
            [True, False, True, False, True, False, True, False])

    def test_the_constant_and_the_place_of_the_functions(self):
        self.assertEqual(MAX_LETTERS, 8)
        for name in ("is_integer", "is_name", "is_set"):
            self.assertEqual(getattr(names, name).__module__, "setchooser.base.names")


class Integers(unittest.TestCase):
    def test_integers_have_at_most_sixty_digits(self):
        for value in (0, 1, -1, 10 ** 59, 10 ** 60 - 1, -(10 ** 59), 1 - 10 ** 60):
            self.assertIs(is_integer(value), True, value)
        for value in (10 ** 60, -(10 ** 60), 10 ** 99, -(10 ** 99)):
            self.assertIs(is_integer(value), False, value)

    def test_other_values_are_no_integers(self):
        for value in (True, False, None, "1", (), (1,), [1], {1: 1}, HORN, FORK, 1.0):
            self.assertIs(is_integer(value), False, value)


class Names(unittest.TestCase):
    def test_names_have_one_to_eight_small_letters(self):
        for value in ("a", "z", "if", "abcdefgh", "zzzzzzzz"):
            self.assertIs(is_name(value), True, value)
        for value in ("", "abcdefghi", "A", "aB", "a1", "1", "a b", " a", "a\n", "\n", "a_b", "a-b", "{", "`",
                      "\u00e9", "\u00df", "x" * 4000):
            self.assertIs(is_name(value), False, value)

    def test_other_values_are_no_names(self):
        for value in (None, 1, True, ("a",), ["a"], {"a": 1}, b"a", HORN, FORK):
            self.assertIs(is_name(value), False, value)


class Sets(unittest.TestCase):
    def test_sets_are_ascending_tuples_of_integers_of_at_least_zero(self):
        for value in ((), (0,), (7,), (0, 1), (0, 2, 5), (3, 10 ** 60 - 1), tuple(range(100))):
            self.assertIs(is_set(value), True, value)
        for value in ((1, 0), (0, 0), (0, 2, 1), (0, 1, 1), (-1,), (-1, 0), (True,), (False,), (False, 1), (0, True),
                      (10 ** 60,), (0, 10 ** 60), (None,), ("a",), ("0",), ((),), ((0,),), (0, (1,)), (0.0,)):
            self.assertIs(is_set(value), False, value)

    def test_other_values_are_no_sets(self):
        for value in (None, 0, True, "", "01", [], [0], [0, 1], {}, {0: 1}, HORN, FORK):
            self.assertIs(is_set(value), False, value)


class Judges(unittest.TestCase):
    def test_every_value_is_judged(self):
        for value in strange_values():
            for judge in (is_integer, is_name, is_set):
                self.assertIn(judge(value), (True, False))
                self.assertIsInstance(judge(value), bool)


if __name__ == "__main__":
    unittest.main()
