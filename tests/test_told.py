"""Tests of setchooser.more.told: stage 17 with points 17.1 and 17.2."""

import itertools
import random
import unittest

from helpers import (
    FORK, HORN, ODD, RING, STEP, XOR, Checks, all_fillings, net_of, no_books, no_names, no_nets, random_book,
    random_net, rounds, rows_where, same, strange_values)
from setchooser.base.books import Book
from setchooser.base.fillings import first_filling
from setchooser.base.nets import MAX_APPLIED, Net
from setchooser.choose.choosers import choosers
from setchooser.choose.decided import is_decided
from setchooser.choose.filled import common
from setchooser.errors import InvalidBook, InvalidName, InvalidNet, InvalidOperation
from setchooser.more import told as module
from setchooser.more.kept import does_keep_rows
from setchooser.more.told import spelled_out, told, with_told
from setchooser.strike.strikes import emptied, lists

CHAIN = Net(3, (("less", (0, 1)), ("less", (1, 2))))
FAR = Net(2, (("far", (0, 1)), ("upto", (0, 1))))
FULL = FORK.with_tie("yes", (0,))
EIGHT = Book(2, {name: (1, ((0,),)) for name in "abcdefgh"})


def told_by_force(book, net, unknowns):
    return tuple(sorted({tuple(values[at] for at in unknowns) for values in all_fillings(book, net)}))


def spelled_by_hand(net, name, other, unknowns):
    """The number of unknowns and the set of applied ties, by the words of the document."""
    size, ties = net.size, []
    for one, places in net.ties:
        if one != name:
            ties.append((one, places))
            continue
        place = dict(zip(unknowns, places))
        for unknown in range(other.size):
            if unknown not in place:
                place[unknown] = size
                size += 1
        ties += [(inner, tuple(place[at] for at in ats)) for inner, ats in other.ties]
    return size, tuple(sorted(set(ties)))


def no_unknowns(size):
    """Values that are no tuples of one to three of so many unknowns."""
    near = [(), (0, 0, 0, 0), (0, 1, 2, 0), [0], [0, 1], (size,), (0, size), (-1,), (0, -1), (True,), (0, False), 0,
            None, (None,), ("0",), "01", ((0,),), {0: 0}, (0, 10 ** 99), (10 ** 60,), (0, [1])]
    return near + [value for value in strange_values() if not (
        isinstance(value, tuple) and 1 <= len(value) <= 3
        and all(type(part) is int and 0 <= part < size for part in value))]


class Examples(unittest.TestCase, Checks):
    def test_the_examples_of_stage_17(self):
        self.assertEqual(
            [told(HORN, FORK, (1, 2)), told(HORN, FORK, (0,)), told(STEP, CHAIN, (0, 2)),
             told(STEP, Net(1, ()), (0, 0))],
            [((0, 0), (0, 1), (1, 0)), ((0,),), ((0, 2),), ((0, 0), (1, 1), (2, 2))])
        self.assertEqual(
            [with_told(XOR, "same", Net(3, (("xor", (0, 1)), ("xor", (1, 2)))), (0, 2))["same"],
             with_told(STEP, "far", CHAIN, (0, 2)).names],
            [((0, 0), (1, 1)), ('far', 'less', 'upto')])
        far = Net(2, (("far", (0, 1)), ("upto", (0, 1))))
        self.assertEqual(
            [spelled_out(far, "far", CHAIN, (0, 2)).ties, spelled_out(far, "near", CHAIN, (0, 2)) == far],
            [(('less', (0, 2)), ('less', (2, 1)), ('upto', (0, 1))), True])
        self.fails(InvalidOperation, spelled_out, far, "far", CHAIN, (0, 1, 2))

    def test_the_place_of_the_functions(self):
        for name in ("told", "with_told", "spelled_out"):
            self.assertEqual(getattr(module, name).__module__, "setchooser.more.told")


class Errors(unittest.TestCase, Checks):
    def test_wrong_arguments(self):
        book, net = (no_books, InvalidBook), (no_nets, InvalidNet)
        unknowns = (lambda: no_unknowns(3), InvalidOperation)
        names = (no_names, InvalidName)
        self.refuses(told, (HORN, FORK, (1, 2)), [book, net, unknowns])
        self.refuses(with_told, (HORN, "new", FORK, (1, 2)), [book, names, net, unknowns])
        more = [(0, 0), (1, 2, 1), (2, 2, 2)]
        unlike = (lambda: more + no_unknowns(3), InvalidOperation)
        self.refuses(spelled_out, (FAR, "far", CHAIN, (0, 2)), [net, names, net, unlike])

    def test_nets_that_do_not_belong_to_the_book(self):
        for net in (FORK, Net(2, (("xor", (0,)),)), Net(2, (("xor", (0, 1)), ("zzz", (0,))))):
            self.fails(InvalidOperation, told, XOR, net, (0, 1))
            self.fails(InvalidOperation, with_told, XOR, "new", net, (0, 1))
            self.fails(InvalidOperation, with_told, EIGHT, "new", net, (0, 1))
        # Behind the errors of the parameters.
        self.fails(InvalidName, with_told, XOR, "New", FORK, (0, 1))
        self.fails(InvalidBook, told, FORK, FORK, ())

    def test_names_that_the_book_has_or_has_not(self):
        self.assertEqual(with_told(STEP, "less", CHAIN, (0, 2)), STEP.with_tie("less", 2, ((0, 2),)))
        self.assertEqual(with_told(STEP, "less", CHAIN, (0, 1, 2)), STEP.with_tie("less", 3, ((0, 1, 2),)))
        net = Net(2, (("a", (0,)),))
        self.fails(InvalidBook, with_told, EIGHT, "i", net, (0, 1))
        self.assertEqual(with_told(EIGHT, "h", net, (0, 1)), EIGHT.with_tie("h", 2, ((0, 0), (0, 1))))
        # A ninth tie comes behind all other errors.
        self.fails(InvalidOperation, with_told, EIGHT, "i", net, (0, 2))
        self.fails(InvalidOperation, with_told, EIGHT, "i", FORK, (0, 1))
        self.fails(InvalidNet, with_told, EIGHT, "i", None, ())
        self.assertEqual(len(with_told(EIGHT.without_tie("a"), "i", Net(2, ()), (0, 1))), 8)

    def test_ties_of_another_number_of_places(self):
        for ties in ((("far", (0,)),), (("far", (0, 1)), ("far", (0, 1, 0))), (("far", (0, 0, 0)),)):
            self.fails(InvalidOperation, spelled_out, Net(2, ties), "far", CHAIN, (0, 2))
            # Also if there would be too many unknowns.
            self.fails(InvalidOperation, spelled_out, Net(60, ties), "far", CHAIN, (0, 2))
        both = Net(2, (("far", (0,)), ("far", (0, 1)), ("near", (0,))))
        self.fails(InvalidOperation, spelled_out, both, "far", CHAIN, (0, 2))
        self.fails(InvalidOperation, spelled_out, both, "far", CHAIN, (0,))
        self.assertEqual(spelled_out(both, "near", CHAIN, (1,)).size, 4)

    def test_too_many_unknowns(self):
        ties = tuple(("far", (at, at + 1)) for at in range(20))
        self.assertEqual(spelled_out(Net(40, ties), "far", CHAIN, (0, 2)).size, 60)
        self.fails(InvalidNet, spelled_out, Net(41, ties), "far", CHAIN, (0, 2))
        self.assertEqual(spelled_out(Net(59, ties[:1]), "far", CHAIN, (0, 2)).size, 60)
        self.fails(InvalidNet, spelled_out, Net(60, ties[:1]), "far", CHAIN, (0, 2))
        self.assertEqual(spelled_out(Net(60, ties), "near", Net(60, ()), (0,)), Net(60, ties))
        self.assertEqual(spelled_out(Net(1, (("far", (0,)),)), "far", Net(60, ()), (7,)), Net(60, ()))
        self.fails(InvalidNet, spelled_out, Net(2, (("far", (0,)),)), "far", Net(60, ()), (7,))

    def test_too_many_applied_ties(self):
        names = ["".join(letters) for letters in itertools.product("abcdefghij", repeat=3)]
        far = net_of(30, [("far", (at,)) for at in range(30)])
        other = net_of(1, [(name, (0,)) for name in names])
        self.assertEqual(len(spelled_out(far, "far", other, (0,))), MAX_APPLIED)
        self.fails(InvalidNet, spelled_out, far.with_tie("near", (0,)), "far", other, (0,))
        self.fails(InvalidNet, spelled_out, far, "far", other.with_tie("abcd", (0,)), (0,))
        # Ties that stand twice behind the replacing are one.
        self.assertEqual(len(spelled_out(far.with_tie("abc", (0,)), "far", other, (0,))), MAX_APPLIED)
        pairs = net_of(30, [("far", (at, more)) for at in range(30) for more in range(30)])
        self.assertEqual(len(spelled_out(pairs, "far", other.with_unknowns(1), (0, 1))), MAX_APPLIED)
        self.assertEqual(len(spelled_out(pairs, "far", other.with_unknowns(1), (1, 0))), MAX_APPLIED)
        self.fails(InvalidNet, spelled_out, net_of(31, [("far", (at, 1)) for at in range(31)]), "far",
                   other.with_unknowns(1), (0, 1))
        self.assertEqual(len(spelled_out(net_of(31, [("far", (at, 1)) for at in range(31)]), "far",
                                         other.with_unknowns(1), (1, 0))), 1000)


class Told(unittest.TestCase):
    def test_the_rows_against_all_fillings(self):
        source = random.Random(131)
        counts = {}
        for _ in range(150):
            book = random_book(source, source.randint(1, 3), source.randint(0, 3), source.choice((0.4, 0.6, 0.8)))
            net = random_net(source, book, source.randint(1, 5), source.randint(0, 6))
            for places in (1, 2, 3):
                unknowns = tuple(source.randrange(net.size) for _ in range(places))
                rows = told(book, net, unknowns)
                self.assertTrue(same(rows, told_by_force(book, net, unknowns)))
                key = (is_decided(book), len(rows) > 0)
                counts[key] = counts.get(key, 0) + 1
        self.assertEqual(len(counts), 4)
        self.assertGreater(min(counts.values()), 10)

    def test_an_unknown_twice_and_three_times(self):
        for net in (FORK, FULL, FORK.with_tie("yes", (1,))):
            for unknowns in ((0, 0), (1, 1), (1, 0, 1), (2, 2, 2), (0, 0, 1), (1, 2, 2)):
                self.assertTrue(same(told(HORN, net, unknowns), told_by_force(HORN, net, unknowns)))
        self.assertEqual(told(HORN, FORK, (1, 1)), ((0, 0), (1, 1)))
        self.assertEqual(told(HORN, FORK, (1, 2, 1)), ((0, 0, 0), (0, 1, 0), (1, 0, 1)))

    def test_nets_without_a_filling(self):
        for book, net in ((HORN, FULL), (XOR, ODD), (XOR, Net(1, (("xor", (0, 0)),))), (RING, Net(2, (
                ("beats", (0, 1)), ("beats", (1, 0)))))):
            self.assertEqual(first_filling(book, net), None)
            self.assertEqual([told(book, net, (0,) * places) for places in (1, 2, 3)], [(), (), ()])
        # An unknown without ties is left all values by striking, and yet there is no filling.
        self.assertEqual(told(XOR, ODD.with_unknowns(1), (3,)), ())

    def test_large_nets(self):
        line = net_of(60, [("xor", (at, at + 1)) for at in range(59)])
        self.assertEqual(told(XOR, line, (0, 59, 30)), ((0, 1, 0), (1, 0, 1)))
        self.assertEqual(told(STEP, net_of(60, [("upto", (at, at + 1)) for at in range(59)]), (0, 59)), STEP["upto"])
        wide = Book(4, {"ne": (2, rows_where(4, 2, lambda one, other: one != other))})
        square = net_of(60, [("ne", pair) for pair in itertools.combinations(range(20, 24), 2)])
        self.assertEqual(told(wide, square, (20, 21, 22)), rows_where(4, 3, lambda *row: len(set(row)) == 3))
        self.assertEqual(told(wide, square.with_tie("ne", (0, 0)), (20, 21, 22)), ())

    def test_each_good_chooser_keeps_a_told_tie(self):
        source = random.Random(132)
        many = lost = 0
        while many < 150:
            book = random_book(source, 2, source.randint(1, 4), 0.6)
            net = random_net(source, book, 4, 5)
            unknowns = tuple(source.randrange(4) for _ in range(source.randint(1, 3)))
            rows = told(book, net, unknowns)
            more = with_told(book, "told", net, unknowns)
            self.assertEqual(more, book.with_tie("told", len(unknowns), rows))
            self.assertEqual(is_decided(more), is_decided(book))
            self.assertEqual(choosers(more), choosers(book))
            for table in choosers(book):
                many += 1
                self.assertIs(does_keep_rows(book, table, rows), True)
            lost += not is_decided(book)
        self.assertGreater(lost, 3)

    def test_decided_books_with_values_that_no_chooser_fixes(self):
        source = random.Random(133)
        for _ in range(40):
            # 0 in all places is a row of each tie, so the book is decided, but a search is needed.
            book = Book(3, {name: (2, rows_where(3, 2, lambda *row: not any(row) or source.random() < 0.5))
                            for name in "ab"})
            self.assertIs(is_decided(book), True)
            net = random_net(source, book, 5, 9)
            unknowns = tuple(source.sample(range(5), 3))
            self.assertEqual(told(book, net, unknowns), told_by_force(book, net, unknowns))

    def test_lists_that_are_left_for_given_values_and_no_filling(self):
        # Either all are 0, or they differ and none is 0: no good chooser fixes another value than 0.
        rows = rows_where(4, 2, lambda one, other: one != other if one and other else one == other)
        book = Book(4, {"ne": (2, rows)})
        self.assertIs(is_decided(book), True)
        whole = net_of(4, [("ne", pair) for pair in itertools.combinations(range(4), 2)])
        for value in (1, 2, 3):
            self.assertNotIn((), rounds(book, whole, {0: (value,)})[0])
        self.assertEqual([told(book, whole, (at,)) for at in range(4)], [((0,),)] * 4)
        self.assertEqual(told(book, whole, (0, 1)), ((0, 0),))
        self.assertEqual(told(book, whole, (3, 0, 3)), ((0, 0, 0),))
        self.assertEqual([common(book, whole, at) for at in range(4)], [(0,)] * 4)
        self.assertEqual(told(book, whole.without_tie("ne", (0, 1)), (0, 1)), ((0, 0), (1, 1), (2, 2), (3, 3)))


class SpelledOut(unittest.TestCase):
    def check(self, net, name, other, unknowns):
        size, ties = spelled_by_hand(net, name, other, unknowns)
        result = spelled_out(net, name, other, unknowns)
        self.assertTrue(same((result.size, result.ties), (size, ties)))
        return result

    def test_the_new_unknowns_copy_by_copy(self):
        net = Net(3, (("far", (1, 0)), ("far", (2, 1)), ("less", (0, 2))))
        other = Net(4, (("a", (0, 1)), ("b", (1, 2)), ("c", (2, 3)), ("d", (3, 3))))
        # The first copy is that of (1, 0), and of its unknowns 0 and 2 are new.
        self.assertEqual(self.check(net, "far", other, (3, 1)).ties, (
            ("a", (3, 0)), ("a", (5, 1)), ("b", (0, 4)), ("b", (1, 6)), ("c", (4, 1)), ("c", (6, 2)), ("d", (1, 1)),
            ("d", (2, 2)), ("less", (0, 2))))
        self.assertEqual(spelled_out(net, "far", other, (3, 1)).size, 7)

    def test_an_unknown_twice_in_an_applied_tie(self):
        net = Net(2, (("far", (1, 1)),))
        self.assertEqual(self.check(net, "far", CHAIN, (0, 2)).ties, (("less", (1, 2)), ("less", (2, 1))))
        self.assertEqual(self.check(net, "far", Net(2, (("less", (0, 1)), ("less", (1, 0)))), (0, 1)).ties, (
            ("less", (1, 1)),))

    def test_ties_that_stand_twice_behind_the_replacing(self):
        net = Net(2, (("far", (0, 1)), ("far", (1, 0)), ("same", (0, 1)), ("same", (1, 0))))
        other = Net(2, (("same", (0, 1)), ("same", (1, 0))))
        self.assertEqual(self.check(net, "far", other, (0, 1)), Net(2, (("same", (0, 1)), ("same", (1, 0)))))

    def test_the_other_net_may_apply_the_tie_itself(self):
        net = Net(2, (("far", (0, 1)), ("near", (0, 0))))
        other = Net(3, (("far", (0, 2)), ("far", (2, 1))))
        self.assertEqual(self.check(net, "far", other, (0, 1)), Net(3, (
            ("far", (0, 2)), ("far", (2, 1)), ("near", (0, 0)))))
        self.assertEqual(self.check(net, "far", Net(2, ()), (0, 1)), Net(2, (("near", (0, 0)),)))

    def test_a_name_that_no_applied_tie_has(self):
        for net in (FORK, FAR, Net(0, ()), Net(60, ())):
            self.assertEqual(self.check(net, "none", CHAIN, (0, 1, 2)), net)

    def test_drawn_nets_by_hand(self):
        source = random.Random(134)
        changed = 0
        for _ in range(300):
            places = source.choices((1, 2, 3), k=3)
            book = Book(1, {name: (many, ()) for name, many in zip("abc", places)})
            net = random_net(source, book, source.randint(1, 5), source.randint(0, 6))
            other = random_net(source, book, source.randint(3, 5), source.randint(0, 6))
            unknowns = tuple(source.sample(range(other.size), places[0]))
            changed += self.check(net, "a", other, unknowns) != net
        self.assertGreater(changed, 100)

    def test_fillings_cut_to_the_unknowns_of_the_net(self):
        source = random.Random(135)
        counts = {True: 0, False: 0}
        more_left = 0
        for _ in range(150):
            book = random_book(source, 2, 3, source.choice((0.5, 0.7)))
            other = random_net(source, book, source.randint(2, 4), 3)
            unknowns = tuple(source.sample(range(other.size), 2))
            more = with_told(book, "told", other, unknowns)
            ties = random_net(source, more, 4, 3).ties
            net = net_of(4, [*ties, ("told", (0, 1)), ("told", (2, source.randrange(4)))])
            spelled = spelled_out(net, "told", other, unknowns)
            cut = sorted({values[:net.size] for values in all_fillings(more, spelled)})
            self.assertEqual(cut, all_fillings(more, net))
            counts[bool(cut)] += 1
            one, two = lists(more, net), lists(more, spelled)[:net.size]
            # Striking can leave more in the net that is spelled out, never less.
            self.assertTrue(all(set(left) <= set(wide) for left, wide in zip(one, two)))
            more_left += one != two
            if is_decided(book):
                self.assertEqual(emptied(more, net) is None, emptied(more, spelled) is None)
        self.assertGreater(min(counts.values()), 20)
        self.assertGreater(more_left, 2)


if __name__ == "__main__":
    unittest.main()
