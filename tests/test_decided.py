"""Tests of setchooser.choose.decided: points 0.12 to 0.15, 0.18 and 0.19 and stage 8."""

import itertools
import random
import unittest

from helpers import (
    FORK, HORN, ODD, RING, STEP, XOR, Checks, all_choosers, all_fillings, all_good, all_rows, is_tree, least, net_of,
    no_books, no_choosers, random_book, random_net, rounds, rows_where, same, strange_values)
from setchooser.base.books import Book
from setchooser.base.fillings import is_case_paper
from setchooser.base.nets import Net
from setchooser.choose import decided as module
from setchooser.choose.choosers import chooser, is_good
from setchooser.choose.decided import book_paper, is_book_paper, is_decided, is_spoiler, spoiler
from setchooser.choose.setnets import set_net
from setchooser.errors import InvalidBook

SPLIT = Book(2, {"g": (3, ((0, 0, 0), (0, 1, 0), (0, 1, 1), (1, 0, 0), (1, 0, 1), (1, 1, 1))),
                 "no": (1, ((0,),)), "yes": (1, ((1,),))})
SHORT = (1, ("xor", (1, 1)), ("xor", (1, 1)))
LOOP = Net(1, (("xor", (0, 0)),))


def small_books(source, many):
    """Books of one and two values, some decided and some not."""
    for turn in range(many):
        book = random_book(source, source.randint(1, 2), source.randint(0, 5), source.choice((0.4, 0.6, 0.8)))
        # Without these two most books are decided.
        both = HORN.only(("no", "yes"))
        yield book + both if turn % 2 and book.size == 2 else book


def whole_tree(book, tie):
    """What would be a case tree if the tie clashed on each way: all sets are asked, and the tie stands everywhere."""
    items = [tie]
    for number in range(len(book.sets)):
        items = [number] + items * book.size
    return tuple(items)


class Examples(unittest.TestCase):
    def test_the_examples_of_stage_8(self):
        self.assertEqual(
            [is_decided(HORN), is_decided(STEP), is_decided(XOR), is_decided(RING), book_paper(HORN),
             book_paper(XOR)[0]],
            [True, True, False, False, ('chooser', {(0,): 0, (0, 1): 0, (1,): 1}), 'none'])
        self.assertEqual(
            [is_book_paper(XOR, ("none", (1, ("xor", (1, 1)), ("xor", (1, 1))))),
             is_spoiler(XOR, Net(1, (("xor", (0, 0)),))), is_spoiler(XOR, ODD), is_spoiler(HORN, FORK),
             spoiler(HORN)],
            [True, True, True, False, None])
        self.assertIs(is_book_paper(RING, ("none", (2,) + (("beats", (2, 2)),) * 3)), True)

    def test_the_place_of_the_functions(self):
        for name in ("is_decided", "book_paper", "is_book_paper", "spoiler", "is_spoiler"):
            self.assertEqual(getattr(module, name).__module__, "setchooser.choose.decided")


class Errors(unittest.TestCase, Checks):
    def test_wrong_arguments(self):
        book = (no_books, InvalidBook)
        for call in (is_decided, book_paper, spoiler):
            self.refuses(call, (HORN,), [book])
        self.refuses(is_book_paper, (HORN, book_paper(HORN)), [book, None])
        self.refuses(is_spoiler, (XOR, ODD), [book, None])
        for value in strange_values():
            self.fails(InvalidBook, is_book_paper, None, value)
            self.fails(InvalidBook, is_spoiler, FORK, value)


class Decided(unittest.TestCase):
    def check(self, book, decided):
        """That the book is decided, or is not, and that all that tells it fits."""
        self.assertIs(is_decided(book), decided)
        paper = book_paper(book)
        self.assertIs(type(paper), tuple)
        self.assertEqual(paper[0], "chooser" if decided else "none")
        self.assertIs(is_book_paper(book, paper), True)
        self.assertTrue(same(book_paper(book), paper))
        net = spoiler(book)
        if decided:
            self.assertEqual(tuple(paper[1]), book.sets)
            self.assertIs(is_good(book, paper[1]), True)
            self.assertIsNone(net)
            self.assertIs(is_spoiler(book, set_net(book)), False)
        else:
            self.assertTrue(is_tree(book, set_net(book), paper[1]))
            self.assertEqual(net, set_net(book))
            self.assertIs(is_spoiler(book, net), True)
            self.assertNotIn((), rounds(book, net)[0])

    def test_books_of_one_and_two_values_against_all_tables(self):
        answers = {True: 0, False: 0}
        for book in small_books(random.Random(51), 200):
            good = all_good(book)
            answers[bool(good)] += 1
            self.check(book, bool(good))
            for table in all_choosers(book):
                self.assertIs(is_book_paper(book, ("chooser", table)), table in good)
        self.assertGreater(min(answers.values()), 20)

    def test_all_books_of_one_tie_of_two_places(self):
        for many in range(5):
            for rows in itertools.combinations(all_rows(2, 2), many):
                book = Book(2, {"t": (2, rows)})
                self.check(book, bool(all_good(book)))

    def test_books_of_three_values_against_all_tables(self):
        source = random.Random(52)
        answers = {True: 0, False: 0}
        written = [STEP, RING, STEP.only(("less",)), STEP.only(("upto",)), RING + STEP,
                   Book(3, {"ne": (2, rows_where(3, 2, lambda one, other: one != other))}),
                   Book(3, {name: (1, ((value,),)) for value, name in enumerate("abc")})]
        for turn in range(16):
            book = written[turn] if turn < len(written) else random_book(source, 3, 2, 0.5, places=(1, 2))
            good = all_good(book)
            answers[bool(good)] += 1
            self.check(book, bool(good))
            for table in good[:50]:
                self.assertIs(is_book_paper(book, ("chooser", table)), True)
        self.assertGreater(min(answers.values()), 2)

    def test_books_of_four_values(self):
        source = random.Random(53)
        self.check(Book(4, {"ne": (2, rows_where(4, 2, lambda one, other: one != other))}), False)
        self.check(Book(4, {"least": (3, rows_where(4, 3, lambda one, two, low: low == min(one, two)))}), True)
        for chance in (0.1, 0.5, 0.9, 0.97):
            ties = {name: (3, tuple(row for row in all_rows(4, 3) if source.random() < chance)) for name in "abcdefgh"}
            book = Book(4, ties)
            self.check(book, chooser(book) is not None)
        self.check(Book(4, {name: (3, all_rows(4, 3)) for name in "abcdefgh"}), True)

    def test_no_ties_and_no_rows(self):
        for size in (1, 2, 3, 4):
            self.check(Book(size, {}), True)
            self.check(Book(size, {"never": (3, ())}), True)


class Papers(unittest.TestCase):
    def judge(self, book, paper, right):
        self.assertIs(is_book_paper(book, paper), right, paper)

    def test_every_value_is_judged(self):
        table = {(0,): 0, (0, 1): 0, (1,): 1}
        for value in strange_values():
            self.judge(HORN, value, same(value, ("chooser", table)))
            self.judge(XOR, value, False)
            self.judge(HORN, ("chooser", value), same(value, table))
            self.judge(XOR, ("chooser", value), False)
            for book in (HORN, XOR):
                self.judge(book, ("none", value), False)
            self.judge(HORN, (value, table), False)
            self.judge(XOR, (value, SHORT), same(value, "none"))
            self.judge(HORN, ("chooser", table, value), False)
            self.judge(XOR, ("none", SHORT, value), False)
        for value in (["chooser", table], {"chooser": table}, table, ("chooser",), ("none",), ("none", table)):
            self.judge(HORN, value, False)
        for value in (["none", SHORT], SHORT, ("none",) + SHORT, ("chooser", SHORT), ("none", list(SHORT))):
            self.judge(XOR, value, False)

    def test_values_near_choosers(self):
        for value in no_choosers(HORN):
            self.judge(HORN, ("chooser", value), False)
        for value in no_choosers(STEP):
            self.judge(STEP, ("chooser", value), False)
        good = chooser(STEP)
        self.judge(STEP, ("chooser", dict(reversed(list(good.items())))), True)
        for taken in STEP.sets:
            self.judge(STEP, ("chooser", {other: good[other] for other in STEP.sets if other != taken}), False)
            self.judge(STEP, ("chooser", {**good, taken: bool(good[taken])}), False)
        self.judge(STEP, ("chooser", {**good, (): 0}), False)
        self.judge(STEP, ("chooser", {**good, (0, 3): 0}), False)
        self.judge(STEP, ("chooser", {(False,) if taken == (0,) else taken: good[taken] for taken in good}), False)
        # A table of the right form that is not good.
        self.judge(STEP, ("chooser", {**good, (0, 1): 2}), False)
        self.judge(HORN, ("chooser", {(0,): 0, (0, 1): 1, (1,): 1}), False)
        self.judge(HORN, ("chooser", chooser(STEP)), False)
        self.judge(XOR, ("chooser", least(XOR)), False)

    def test_values_near_case_trees(self):
        source = random.Random(54)
        tree = book_paper(RING)[1]
        items = list(tree) + list(set_net(RING).ties) + [0, 1, 2, 6, 7, -1, True, False, None, (), "beats", ("beats",),
                                                         ("beats", (2, 7)), ["beats", (2, 2)], ("beats", (2, True))]
        right = 0
        for index, item in enumerate(tree):
            for other in items:
                if not same(other, item):
                    value = tree[:index] + (other,) + tree[index + 1:]
                    judged = is_tree(RING, set_net(RING), value)
                    right += judged
                    self.judge(RING, ("none", value), judged)
        for _ in range(300):
            value = list(tree)
            at = source.randrange(len(value))
            value[at:at + source.randint(0, 1)] = [source.choice(items) for _ in range(source.randint(0, 1))]
            self.judge(RING, ("none", tuple(value)), is_tree(RING, set_net(RING), tuple(value)))
        for value in (tree[:-1], tree + tree[-1:], tree * 2, ()):
            self.judge(RING, ("none", value), False)

    def test_a_case_tree_of_another_net(self):
        # Case trees of the net LOOP, and of the ring of three, but not of the set net.
        self.assertIs(is_case_paper(XOR, LOOP, ("none", (0, ("xor", (0, 0)), ("xor", (0, 0))))), True)
        self.judge(XOR, ("none", (0, ("xor", (0, 0)), ("xor", (0, 0)))), False)
        deep = (0, 1, ("xor", (0, 1)), 2, ("xor", (0, 2)), ("xor", (1, 2)),
                1, 2, ("xor", (1, 2)), ("xor", (0, 2)), ("xor", (0, 1)))
        self.assertIs(is_case_paper(XOR, ODD, ("none", deep)), True)
        self.judge(XOR, ("none", deep), False)
        self.judge(RING, ("none", book_paper(XOR)[1]), False)
        # One of the set net, that asks more than is needed.
        self.judge(XOR, ("none", (0,) + SHORT * 2), True)
        self.judge(XOR, ("none", (0,) + ((2,) + SHORT * 2) * 2), True)
        self.judge(XOR, ("none", (0,) + ((2,) + SHORT * 2) * 3), False)
        self.judge(XOR, ("none", (1, ("xor", (1, 1)), ("xor", (1, True)))), False)
        self.judge(XOR, ("none", (True, ("xor", (1, 1)), ("xor", (1, 1)))), False)

    def test_a_book_that_is_decided_has_no_case_tree(self):
        never = Book(2, {"never": (1, ())})
        for book in (HORN, never, SPLIT.only(("g", "no")), STEP.only(("less",)).turned((2, 1, 0))):
            for tie in set_net(book).ties[:3]:
                self.judge(book, ("none", (tie,)), False)
                if book.size == 2:
                    self.judge(book, ("none", whole_tree(book, tie)), False)
        # A tie without rows would clash at once, but it has no shadows, so the set net does not have it.
        self.judge(Book(2, {"t": (1, ())}), ("none", (("t", (0,)),)), False)

    def test_no_state_is_shared(self):
        book_paper(HORN)[1].clear()
        self.assertEqual(book_paper(HORN), ("chooser", {(0,): 0, (0, 1): 0, (1,): 1}))
        self.assertEqual(book_paper(HORN)[1], chooser(HORN))


class Spoilers(unittest.TestCase):
    def test_every_value_is_judged(self):
        for value in strange_values():
            self.assertIs(is_spoiler(HORN, value), False)
            self.assertIs(is_spoiler(XOR, value), value == ODD)
        for value in (ODD.ties, (ODD,), [ODD], XOR, ("none", ODD), {0: ODD}):
            self.assertIs(is_spoiler(XOR, value), False)

    def test_spoilers_that_are_not_the_set_net(self):
        ring = net_of(5, [("xor", (k, (k + 1) % 5)) for k in range(5)])
        for net in (LOOP, ODD, ODD.with_unknowns(4), LOOP + ODD, ring):
            self.assertNotEqual(net, set_net(XOR))
            self.assertIs(is_spoiler(XOR, net), True)
        three = Net(3, (("beats", (0, 1)), ("beats", (1, 0))))
        self.assertIs(is_spoiler(RING, three), True)
        self.assertIs(is_spoiler(RING + STEP, Net(2, (("beats", (0, 1)), ("upto", (0, 1)), ("upto", (1, 0))))), True)

    def test_nets_that_are_filled_or_left_an_empty_list(self):
        self.assertIs(is_spoiler(XOR, Net(0, ())), False)
        self.assertIs(is_spoiler(XOR, Net(3, ())), False)
        self.assertIs(is_spoiler(XOR, ODD.without_tie("xor", (0, 1))), False)
        self.assertIs(is_spoiler(RING, Net(3, (("beats", (0, 1)), ("beats", (1, 2)), ("beats", (2, 0))))), False)
        both = XOR + HORN.only(("no", "yes"))
        for net in (ODD.with_tie("yes", (0,)), ODD.with_unknowns(1).with_tie("no", (3,)).with_tie("yes", (3,))):
            self.assertIn((), rounds(both, net)[0])
            self.assertIs(is_spoiler(both, net), False)
        self.assertIs(is_spoiler(both, ODD.with_unknowns(1).with_tie("yes", (3,))), True)

    def test_nets_that_do_not_belong(self):
        self.assertIs(is_spoiler(XOR, FORK), False)
        self.assertIs(is_spoiler(RING, ODD), False)
        self.assertIs(is_spoiler(XOR, Net(2, (("xor", (0, 0)), ("xor", (0, 0, 1))))), False)
        self.assertIs(is_spoiler(XOR, LOOP.with_tie("other", (0,))), False)

    def test_small_nets_by_force(self):
        source = random.Random(55)
        answers = {True: 0, False: 0}
        for _ in range(400):
            chance = source.choice((0.4, 0.6))
            book = random_book(source, source.randint(1, 3), source.randint(1, 3), chance, places=(2, 3))
            net = random_net(source, book, source.randint(1, 4), source.randint(1, 6))
            judged = () not in rounds(book, net)[0] and not all_fillings(book, net)
            answers[judged] += 1
            self.assertIs(is_spoiler(book, net), judged)
            if judged:
                self.assertIs(is_decided(book), False)
        self.assertGreater(min(answers.values()), 20)

    def test_large_nets(self):
        self.assertIs(is_spoiler(XOR, net_of(59, [("xor", (k, (k + 1) % 59)) for k in range(59)])), True)
        self.assertIs(is_spoiler(XOR, net_of(60, [("xor", (k, (k + 1) % 60)) for k in range(60)])), False)
        upto = net_of(60, [("upto", (k, (k + 1) % 60)) for k in range(60)])
        self.assertIs(is_spoiler(STEP, upto), False)


class Statements(unittest.TestCase):
    def test_fewer_ties_of_a_decided_book(self):
        for many in range(5):
            for names in itertools.combinations(HORN.names, many):
                self.assertIs(is_decided(HORN.only(names)), True)

    def test_ties_that_are_decided_two_by_two_but_not_together(self):
        for names in itertools.combinations(SPLIT.names, 2):
            self.assertIs(is_decided(SPLIT.only(names)), True)
        self.assertIs(is_decided(SPLIT), False)

    def test_renamed_ties_and_turned_values_change_nothing(self):
        for book in small_books(random.Random(56), 40):
            decided = is_decided(book)
            self.assertIs(is_decided(book.turned(tuple(reversed(range(book.size))))), decided)
            self.assertIs(is_decided(book.renamed(dict(zip(book.names, "vwxyz")))), decided)
        for values in itertools.permutations(range(3)):
            self.assertIs(is_decided(STEP.turned(values)), True)
            self.assertIs(is_decided(RING.turned(values)), False)

    def test_striking_is_enough_just_for_decided_books(self):
        source = random.Random(57)
        for book in small_books(source, 60):
            spoiled = False
            for _ in range(10):
                net = random_net(source, book, source.randint(0, 4), 6)
                whole = () not in rounds(book, net)[0]
                spoiled = spoiled or whole != bool(all_fillings(book, net))
            if is_decided(book):
                self.assertFalse(spoiled)
            else:
                self.assertEqual(all_fillings(book, spoiler(book)), [])


if __name__ == "__main__":
    unittest.main()
