"""Tests of setchooser.errors: points 1.1 and 1.2."""

import unittest

from setchooser import errors
from setchooser.errors import (
    ChooserError, Emptied, InvalidBook, InvalidChooser, InvalidName, InvalidNet, InvalidNumber, InvalidOperation,
    NoChooser, NothingToUndo, ParseError, TooMany, UnknownName)


class Bases(unittest.TestCase):
    def test_each_error_has_just_the_base_class_that_is_told(self):
        bases = {
            ChooserError: ValueError, InvalidName: ChooserError, InvalidBook: ChooserError,
            InvalidNet: ChooserError, InvalidChooser: ChooserError, InvalidOperation: ChooserError,
            ParseError: ChooserError, InvalidNumber: IndexError, UnknownName: KeyError, TooMany: OverflowError,
            NothingToUndo: LookupError, NoChooser: ArithmeticError, Emptied: ArithmeticError}
        for error, base in bases.items():
            self.assertEqual(error.__bases__, (base,), error)

    def test_errors_are_defined_in_their_file(self):
        for name in ("ChooserError", "InvalidName", "InvalidBook", "InvalidNet", "InvalidChooser",
                     "InvalidOperation", "ParseError", "InvalidNumber", "UnknownName", "TooMany",
                     "NothingToUndo", "NoChooser", "Emptied"):
            self.assertEqual(getattr(errors, name).__module__, "setchooser.errors")


class Keeps(unittest.TestCase):
    def test_what_each_error_keeps(self):
        self.assertEqual(ParseError(7).index, 7)
        self.assertEqual(InvalidNumber((1, 2)).value, (1, 2))
        self.assertEqual(UnknownName("far").name, "far")
        self.assertEqual(TooMany(200).limit, 200)
        self.assertEqual(NothingToUndo(3).many, 3)
        self.assertEqual(NoChooser(("a", "b")).which, ("a", "b"))
        self.assertEqual(Emptied(5).unknown, 5)

    def test_the_others_take_a_message(self):
        for error in (ChooserError, InvalidName, InvalidBook, InvalidNet, InvalidChooser, InvalidOperation):
            self.assertEqual(str(error("a word")), "a word")
            self.assertEqual(vars(error("a word")), {})

    def test_str_of_invalid_number_and_unknown_name_is_repr_of_what_they_keep(self):
        for value in (3, -1, True, None, "a", "it's", "", (), (1,), ("a", 2), [0], {"a": 1}, 10 ** 99):
            self.assertEqual(str(InvalidNumber(value)), repr(value))
            self.assertEqual(str(UnknownName(value)), repr(value))

    def test_errors_can_be_raised_and_caught_by_their_bases(self):
        for error, base in ((ParseError(1), ValueError), (InvalidNumber(1), IndexError), (UnknownName("a"), KeyError),
                            (TooMany(1), OverflowError), (NothingToUndo(1), LookupError),
                            (NoChooser(()), ArithmeticError), (Emptied(0), ArithmeticError)):
            with self.assertRaises(base):
                raise error


if __name__ == "__main__":
    unittest.main()
