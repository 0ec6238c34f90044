"""Tests of setchooser.choose.filled: points 0.9, 0.10, 0.14, 0.15, 0.18 and 0.19 and stage 9."""

import random
import unittest

from helpers import (
    FORK, HORN, ODD, RING, STEP, XOR, Checks, all_fillings, all_rows, net_of, no_books, no_integers, no_nets,
    random_book, random_net, rounds, rows_where, same, strange_values)
from setchooser.base.books import Book
from setchooser.base.fillings import is_filling
from setchooser.base.nets import Net
from setchooser.choose import filled as module
from setchooser.choose.choosers import chooser
from setchooser.choose.filled import common, fill, is_filled, is_net_paper, net_paper
from setchooser.errors import Emptied, InvalidBook, InvalidNet, InvalidNumber, InvalidOperation, NoChooser
from setchooser.more.given import fixing
from setchooser.strike.strikes import emptied, strikes

ONE = FORK.with_tie("yes", (1,))
FULL = FORK.with_tie("yes", (0,))
BOTH = XOR + HORN.only(("no", "yes"))
# Two values differ, or both are 0.
ZERO = Book(3, {"ne": (2, rows_where(3, 2, lambda one, other: one != other or one == 0))})


def decided_books(source, many):
    """Books that are decided, and a good chooser of each."""
    found = 0
    while found < many:
        book = random_book(source, source.randint(1, 3), source.randint(0, 4), source.choice((0.4, 0.6, 0.8)))
        table = chooser(book)
        if table is not None:
            found += 1
            yield book, table


def values_in(told, unknown):
    return tuple(sorted({filling[unknown] for filling in told}))


class Examples(unittest.TestCase, Checks):
    def test_the_examples_of_stage_9(self):
        self.assertEqual(
            [is_filled(HORN, FORK), fill(HORN, FORK), net_paper(HORN, FORK),
             net_paper(HORN, FORK.with_tie("yes", (0,)))[:2],
             fill(STEP, Net(3, (("less", (1, 0)), ("upto", (1, 2)))))],
            [True, (0, 0, 0), ('filled', (0, 0, 0)), ('empty', 0), (1, 0, 0)])
        self.assertEqual(
            [common(HORN, FORK, 0), common(HORN, FORK, 1), is_net_paper(XOR, ODD, ("filled", (0, 1, 0))),
             is_net_paper(HORN, FORK, ("empty", 0, {}))],
            [(0,), (0, 1), False, False])
        self.fails(NoChooser, fill, XOR, ODD, which=("xor",))

    def test_the_place_of_the_functions(self):
        for name in ("is_filled", "fill", "net_paper", "is_net_paper", "common"):
            self.assertEqual(getattr(module, name).__module__, "setchooser.choose.filled")


class Errors(unittest.TestCase, Checks):
    def test_wrong_arguments(self):
        bad = [(no_books, InvalidBook), (no_nets, InvalidNet)]
        for call in (is_filled, fill, net_paper):
            self.refuses(call, (HORN, FORK), bad)
        self.refuses(is_net_paper, (HORN, FORK, ("filled", (0, 0, 0))), bad + [None])
        unknowns = (lambda: no_integers() + [3, 4, 60, -1, 10 ** 59], (InvalidNumber, "value"))
        self.refuses(common, (HORN, FORK, 0), bad + [unknowns])
        self.fails(InvalidNumber, common, HORN, Net(0, ()), 0, value=0)

    def test_the_net_belongs_to_the_book(self):
        for net in (FORK, Net(1, (("xor", (0,)),))):
            # The book is not decided either, which comes behind.
            for call in (is_filled, fill, net_paper):
                self.fails(InvalidOperation, call, XOR, net)
            self.fails(InvalidOperation, common, XOR, net, 0)
            self.fails(InvalidNumber, common, XOR, net, 3, value=3)
            for value in strange_values():
                self.fails(InvalidOperation, is_net_paper, XOR, net, value)
        self.fails(InvalidOperation, fill, HORN, FULL.with_tie("other", (0, 1)))

    def test_the_book_is_decided(self):
        # No unknown at all, a filling, no filling, and a list left empty: the book alone decides.
        for book, net in ((XOR, Net(0, ())), (XOR, Net(2, (("xor", (0, 1)),))), (XOR, ODD),
                          (BOTH, ODD.with_tie("yes", (0,))), (RING, Net(1, ()))):
            for call in (is_filled, fill, net_paper):
                self.fails(NoChooser, call, book, net, which=book.names)
            if net.size:
                self.fails(NoChooser, common, book, net, 0, which=book.names)
        self.assertEqual(BOTH.names, ("no", "xor", "yes"))

    def test_emptied_comes_last(self):
        self.fails(Emptied, fill, HORN, FULL, unknown=0)
        self.fails(NoChooser, fill, BOTH, Net(1, (("no", (0,)), ("yes", (0,)))), which=BOTH.names)
        # The least unknown with an empty list, which need not be the one that is emptied first.
        late = net_of(5, [("if", (0, 1)), ("if", (1, 2)), ("no", (4,)), ("yes", (4,)), ("yes", (1,)), ("no", (2,))])
        self.assertEqual(emptied(HORN, late), 0)
        self.fails(Emptied, fill, HORN, late, unknown=0)
        self.fails(Emptied, fill, HORN, Net(4, (("no", (2,)), ("no", (3,)), ("yes", (2,)), ("yes", (3,)))), unknown=2)


class Filled(unittest.TestCase, Checks):
    def check(self, book, net, table):
        left, ranks = rounds(book, net)
        if () in left:
            first = left.index(())
            self.assertIs(is_filled(book, net), False)
            self.fails(Emptied, fill, book, net, unknown=first)
            self.assertEqual(net_paper(book, net), ("empty", first, ranks))
            self.assertEqual(list(net_paper(book, net)[2]), sorted(ranks))
        else:
            values = tuple(table[taken] for taken in left)
            self.assertIs(is_filled(book, net), True)
            self.assertEqual(fill(book, net), values)
            self.assertEqual(net_paper(book, net), ("filled", values))
        self.assertIs(is_net_paper(book, net, net_paper(book, net)), True)
        return () not in left

    def test_nets_of_decided_books_against_all_fillings(self):
        source = random.Random(61)
        answers = {True: 0, False: 0}
        several = 0
        for book, table in decided_books(source, 200):
            net = random_net(source, book, source.randint(0, 5), source.randint(0, 8))
            told = all_fillings(book, net)
            self.assertIs(self.check(book, net, table), bool(told))
            answers[bool(told)] += 1
            if told:
                self.assertIn(fill(book, net), told)
            for unknown in range(net.size):
                values = values_in(told, unknown)
                several += 1 < len(values) < book.size
                self.assertTrue(same(common(book, net, unknown), values))
        self.assertGreater(min(answers.values()), 25)
        self.assertGreater(several, 20)

    def test_no_unknowns_and_no_ties(self):
        for book in (HORN, STEP, Book(1, {}), Book(4, {"never": (1, ())})):
            table = chooser(book)
            self.check(book, Net(0, ()), table)
            self.assertEqual((is_filled(book, Net(0, ())), fill(book, Net(0, ()))), (True, ()))
            self.assertEqual(net_paper(book, Net(0, ())), ("filled", ()))
            self.check(book, Net(3, ()), table)
            self.assertEqual(common(book, Net(3, ()), 2), tuple(range(book.size)))

    def test_a_tie_without_rows(self):
        book = Book(2, {"never": (2, ()), "any": (2, all_rows(2, 2))})
        net = Net(4, (("any", (0, 1)), ("never", (2, 3))))
        self.assertIs(is_filled(book, net), False)
        self.assertEqual(net_paper(book, net), ("empty", 2, {(2, 0): 1, (2, 1): 1, (3, 0): 1, (3, 1): 1}))
        self.assertEqual([common(book, net, unknown) for unknown in range(4)], [(), (), (), ()])

    def test_values_that_striking_leaves_but_no_filling_has(self):
        self.assertEqual(rounds(HORN, FORK)[0][0], (0, 1))
        self.assertEqual(common(HORN, FORK, 0), (0,))
        ties = [("ne", (one, other)) for one in range(4) for other in range(one)]
        net = net_of(4, ties)
        self.assertEqual(common(ZERO, net, 3), (0, 1, 2))
        self.assertEqual(values_in(all_fillings(ZERO, net), 3), (0, 1, 2))
        # If unknown 0 is not 0, none is, and then two of the three others would have equal values.
        wide = ZERO.with_tie("or", 2, rows_where(3, 2, lambda one, two: not one or two))
        self.assertIsNotNone(chooser(wide))
        net = net_of(4, ties + [("or", (0, 1)), ("or", (0, 2)), ("or", (0, 3))])
        self.assertEqual(common(wide, net, 0), values_in(all_fillings(wide, net), 0))
        self.assertEqual(common(wide, net, 0), (0,))
        self.assertEqual(rounds(wide, net)[0][0], (0, 1, 2))

    def test_the_values_that_no_chooser_fixes(self):
        source = random.Random(62)
        counts = {}
        for _ in range(60):
            rows = [rows_where(3, 2, lambda *row: not any(row) or source.random() < 0.5) for _ in range(2)]
            book = Book(3, {"a": (2, rows[0]), "b": (2, rows[1])})
            fixed = [fixing(book, (value,)) is not None for value in range(3)]
            net = random_net(source, book, 5, 9)
            told = all_fillings(book, net)
            left = rounds(book, net)[0]
            for unknown in range(5):
                values = values_in(told, unknown)
                self.assertEqual(common(book, net, unknown), values)
                for value in left[unknown]:
                    counts[fixed[value], value in values] = counts.get((fixed[value], value in values), 0) + 1
        # Values that are left and that a chooser fixes, or none does, and that some filling has, or none.
        self.assertEqual(len(counts), 4)
        self.assertGreater(min(counts.values()), 5)

    def test_books_of_four_values_and_large_nets(self):
        source = random.Random(63)
        low = {name: (3, rows_where(4, 3, test)) for name, test in (
            ("least", lambda one, two, last: last == min(one, two)),
            ("upto", lambda one, two, last: one <= max(two, last) or last == 3),
            ("any", lambda *row: True), ("less", lambda one, two, last: one < two))}
        book = Book(4, low).without_tie("upto")
        table = chooser(book)
        for many in (10, 40, 400):
            net = net_of(60, [(name, tuple(source.randrange(60) for _ in range(3)))
                              for name in source.choices(("least", "any"), k=many)])
            self.check(book, net, table)
            self.assertIn(0, common(book, net, 59))
            more = net.with_tie("less", (7, 8, 9)).with_tie("less", (8, 9, 7)) if many == 10 else net
            self.check(book, more, table)
        self.assertIs(is_filled(book, Net(60, (("less", (0, 0, 0)),))), False)
        wide = Book(4, {name: (3, all_rows(4, 3)) for name in "abcdefgh"})
        net = net_of(60, [(source.choice("abcdefgh"), tuple(source.sample(range(60), 3))) for _ in range(20000)])
        self.assertEqual(fill(wide, net), (0,) * 60)
        self.assertEqual(common(wide, net, 30), (0, 1, 2, 3))

    def test_nets_beside_one_another(self):
        for one, other in ((FORK, ONE), (ONE, FULL), (FULL, FORK), (ONE, ONE)):
            self.assertIs(is_filled(HORN, one + other), is_filled(HORN, one) and is_filled(HORN, other))

    def test_nothing_is_changed_and_no_state_is_shared(self):
        net_paper(HORN, FULL)[2].clear()
        self.assertEqual(net_paper(HORN, FULL), ("empty", 0, strikes(HORN, FULL)))
        paper = ("empty", 0, {(0, 1): 4, (0, 0): 1, (2, 1): 3, (1, 1): 3, (2, 0): 2, (1, 0): 2})
        self.assertIs(is_net_paper(HORN, FULL, paper), True)
        self.assertEqual(list(paper[2])[:2], [(0, 1), (0, 0)])


class Papers(unittest.TestCase):
    def judge(self, book, net, paper, right):
        self.assertIs(is_net_paper(book, net, paper), right, paper)

    def test_every_value_is_judged(self):
        ranks = strikes(HORN, FULL)
        for value in strange_values():
            self.judge(HORN, FORK, value, same(value, ("filled", (0, 0, 0))))
            self.judge(HORN, FULL, value, False)
            self.judge(XOR, ODD, value, False)
            self.judge(HORN, FORK, ("filled", value), same(value, (0, 0, 0)))
            self.judge(HORN, FULL, ("filled", value), False)
            self.judge(HORN, FORK, (value, (0, 0, 0)), same(value, "filled"))
            self.judge(HORN, FULL, (value, 0, ranks), same(value, "empty"))
            self.judge(HORN, FULL, ("empty", value, ranks), type(value) is int and value in (0, 1, 2))
            self.judge(HORN, FULL, ("empty", 0, value), False)
            self.judge(HORN, FULL, ("empty", 0, ranks, value), False)
            self.judge(HORN, FORK, ("filled", (0, 0, 0), value), False)
            self.judge(STEP, Net(0, ()), ("filled", value), same(value, ()))
        for value in (["empty", 0, ranks], ("empty", 0), ("empty", ranks), ranks, ("empty",), ("empty", (0, ranks))):
            self.judge(HORN, FULL, value, False)
        for value in (["filled", (0, 0, 0)], ("filled", [0, 0, 0]), (0, 0, 0), ("filled",), ("filled", 0, 0, 0)):
            self.judge(HORN, FORK, value, False)

    def test_all_fillings_are_papers(self):
        source = random.Random(64)
        for _ in range(60):
            # Most of these books are not decided, which is nothing to the judge.
            book = random_book(source, source.randint(1, 3), 3, 0.6)
            net = random_net(source, book, 3, 4)
            told = all_fillings(book, net)
            for values in all_rows(book.size, 3):
                self.judge(book, net, ("filled", values), values in told)
        self.judge(XOR, ODD.without_tie("xor", (0, 1)), ("filled", (1, 1, 0)), True)
        self.judge(XOR, ODD.without_tie("xor", (0, 1)), ("filled", (1, True, 0)), False)
        self.judge(XOR, ODD.without_tie("xor", (0, 1)), ("filled", (1, 1, 0, 0)), False)

    def test_strikes_that_the_package_did_not_make(self):
        # 0 of unknown 0 is struck; then 0 of both others; then 1 of one of them; then 1 of unknown 0.
        few = {(0, 0): 1, (1, 0): 2, (2, 1): 3, (0, 1): 4, (2, 0): 2}
        self.judge(HORN, FULL, ("empty", 0, few), True)
        self.judge(HORN, FULL, ("empty", 2, few), True)
        self.judge(HORN, FULL, ("empty", 1, few), False)
        least = {(0, 0): 3, (1, 0): 50, (2, 1): 51, (0, 1): 10 ** 60 - 1}
        self.judge(HORN, FULL, ("empty", 0, least), True)
        self.judge(HORN, FULL, ("empty", 2, least), False)
        self.judge(HORN, FULL, ("empty", 0, {**strikes(HORN, FULL), (1, 1): 9}), True)
        self.judge(HORN, FULL, ("empty", 1, {**strikes(HORN, FULL), (1, 1): 9}), True)
        both = BOTH
        net = ODD.with_tie("yes", (0,)).with_tie("yes", (1,))
        self.judge(both, net, ("empty", 0, {(0, 0): 1, (1, 0): 1, (0, 1): 2}), True)
        self.judge(both, net, ("empty", 2, {(0, 0): 1, (1, 0): 1, (2, 1): 2, (2, 0): 9}), False)

    def test_strikes_near_right_ones(self):
        right = {(0, 0): 1, (1, 0): 2, (2, 1): 3, (0, 1): 4}
        for pair in right:
            self.judge(HORN, FULL, ("empty", 0, {other: right[other] for other in right if other != pair}), False)
            for rank in (0, -1, True, None, "1", 10 ** 60, (1,)):
                self.judge(HORN, FULL, ("empty", 0, {**right, pair: rank}), False)
        self.judge(HORN, FULL, ("empty", 0, {**right, (0, 1): 3}), False)
        self.judge(HORN, FULL, ("empty", 0, {**right, (1, 0): 1}), False)
        self.judge(HORN, FULL, ("empty", False, right), False)
        self.judge(HORN, FULL, ("empty", 3, right), False)
        self.judge(HORN, FULL, ("empty", -3, right), False)
        self.judge(HORN, FULL, ("empty", 0, {**right, (3, 0): 5}), False)
        self.judge(HORN, FULL, ("empty", 0, {**right, (0, 2): 5}), False)
        truths = {(False, 0) if pair == (0, 0) else pair: rank for pair, rank in right.items()}
        self.judge(HORN, FULL, ("empty", 0, truths), False)
        self.judge(HORN, FULL, ("empty", 0, tuple(right.items())), False)
        self.judge(HORN, FORK, ("empty", 0, right), False)
        # Unknown 0 is left a value, so the strikes are right, but do not show that there is no filling.
        self.judge(HORN, ONE, ("empty", 0, strikes(HORN, ONE)), False)
        self.judge(XOR, ODD, ("empty", 0, {}), False)

    def test_papers_of_every_emptied_unknown(self):
        source = random.Random(65)
        right = wrong = 0
        for _ in range(100):
            book = random_book(source, source.randint(1, 3), 3, 0.4)
            net = random_net(source, book, source.randint(1, 4), 5)
            left, ranks = rounds(book, net)
            for unknown in range(net.size):
                right += not left[unknown]
                wrong += bool(left[unknown])
                self.judge(book, net, ("empty", unknown, ranks), not left[unknown])
        self.assertGreater(min(right, wrong), 50)

    def test_a_filling_of_any_net_is_accepted_though_the_book_is_not_decided(self):
        net = net_of(60, [("xor", (k, k + 1)) for k in range(59)])
        self.assertIs(is_filling(XOR, net, (0, 1) * 30), True)
        self.judge(XOR, net, ("filled", (0, 1) * 30), True)
        self.judge(XOR, net, ("filled", (1, 0) * 30), True)
        self.judge(XOR, net, ("filled", (0, 1) * 29 + (0, 0)), False)


if __name__ == "__main__":
    unittest.main()
