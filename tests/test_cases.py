"""Tests of case papers in setchooser.base.fillings: points 0.5, 0.6 and 4.1."""

import random
import unittest

from helpers import (
    FORK, HORN, ODD, RING, STEP, XOR, Checks, all_fillings, is_tree, net_of, no_books, no_nets, random_book,
    random_net, rows_where, same, strange_values)
from setchooser.base.books import Book
from setchooser.base.fillings import asked, case_paper, clashes, first_filling, is_case_paper
from setchooser.base.nets import Net
from setchooser.errors import InvalidBook, InvalidNet, InvalidOperation

TREE = (0, 1, ("xor", (0, 1)), ("xor", (1, 2)), 1, ("xor", (1, 2)), ("xor", (0, 1)))
DEEP = (0, 1, ("xor", (0, 1)), 2, ("xor", (0, 2)), ("xor", (1, 2)),
        1, 2, ("xor", (1, 2)), ("xor", (0, 2)), ("xor", (0, 1)))
WHOLE = (0, ("xor", (0, 1)), ("xor", (0, 1)))
LOOP = Net(1, (("xor", (0, 0)),))


class Examples(unittest.TestCase):
    def test_the_examples_of_stage_4(self):
        self.assertEqual(
            [is_case_paper(XOR, ODD, ("none", TREE)), case_paper(XOR, ODD)[0], case_paper(HORN, FORK)[0],
             is_case_paper(XOR, ODD, ("none", (("xor", (0, 1)),)))],
            [False, 'none', 'filled', False])
        self.assertEqual(
            [is_case_paper(XOR, ODD, ("none", DEEP)), asked(XOR, ODD, DEEP), len(clashes(XOR, ODD, DEEP)),
             is_case_paper(XOR, ODD, ("none", WHOLE))],
            [True, (0, 1, 2), 6, False])


class Errors(unittest.TestCase, Checks):
    def test_wrong_arguments(self):
        bad = [(no_books, InvalidBook), (no_nets, InvalidNet)]
        self.refuses(case_paper, (HORN, FORK), bad)
        self.refuses(is_case_paper, (XOR, ODD, ("none", DEEP)), bad + [None])
        for call in (asked, clashes):
            self.refuses(call, (XOR, ODD, DEEP), bad + [(strange_values, InvalidOperation)])

    def test_the_net_belongs_to_the_book(self):
        self.fails(InvalidOperation, case_paper, XOR, FORK)
        for value in strange_values():
            self.fails(InvalidOperation, is_case_paper, XOR, FORK, value)
        for call in (asked, clashes):
            self.fails(InvalidOperation, call, XOR, FORK, DEEP)
            self.fails(InvalidOperation, call, HORN, ODD, DEEP)

    def test_asked_and_clashes_take_case_trees_alone(self):
        for call in (asked, clashes):
            for tree in (TREE, WHOLE, list(DEEP), ("none", DEEP), DEEP + DEEP, DEEP[:-1], (), (0,), 0, ("xor", (0, 1))):
                self.fails(InvalidOperation, call, XOR, ODD, tree)


class Judge(unittest.TestCase):
    def judge(self, book, net, tree, right):
        self.assertIs(is_case_paper(book, net, ("none", tree)), right, tree)
        self.assertIs(is_case_paper(book, net, ("filled", tree)), False, tree)

    def test_every_value_is_judged(self):
        for value in strange_values():
            self.assertIs(is_case_paper(HORN, FORK, value), same(value, ("filled", (0, 0, 0))))
            self.assertIs(is_case_paper(XOR, ODD, value), False)
            self.judge(XOR, ODD, value, False)
            self.assertIs(is_case_paper(XOR, ODD, ("filled", value)), False)
            self.assertIs(is_case_paper(HORN, FORK, ("filled", value)), same(value, (0, 0, 0)))
            for word in ("none", "filled"):
                self.assertIs(is_case_paper(XOR, ODD, (value, DEEP)), same(value, "none"))
                self.assertIs(is_case_paper(XOR, ODD, (word, DEEP, value)), False)
        self.assertIs(is_case_paper(XOR, ODD, ["none", DEEP]), False)
        self.assertIs(is_case_paper(XOR, ODD, DEEP), False)

    def test_papers_of_fillings(self):
        for filling in all_fillings(HORN, FORK):
            self.assertIs(is_case_paper(HORN, FORK, ("filled", filling)), True)
        for value in ((1, 0, 0), (0, 0, False), [0, 0, 0], (0, 0)):
            self.assertIs(is_case_paper(HORN, FORK, ("filled", value)), False)
        self.assertIs(is_case_paper(HORN, FORK, ("none", (0, 0, 0))), False)
        self.assertIs(is_case_paper(STEP, Net(0, ()), ("filled", ())), True)

    def test_unknowns_in_any_order(self):
        other = (2, 0, ("xor", (0, 2)), 1, ("xor", (1, 2)), ("xor", (0, 1)),
                 1, 0, ("xor", (0, 1)), ("xor", (0, 2)), ("xor", (1, 2)))
        self.assertIs(is_tree(XOR, ODD, other), True)
        self.judge(XOR, ODD, other, True)
        self.judge(XOR, LOOP, (0, ("xor", (0, 0)), ("xor", (0, 0))), True)
        self.judge(XOR, LOOP, (("xor", (0, 0)),), False)

    def test_an_unknown_asked_for_nothing(self):
        net = ODD.with_unknowns(1)
        self.judge(XOR, net, (3,) + DEEP + DEEP, True)
        self.judge(XOR, net, (3, 3) + DEEP + DEEP + DEEP, False)
        self.judge(XOR, ODD, (3,) + DEEP + DEEP, False)
        self.judge(XOR, net, (3,) + DEEP, False)
        self.judge(XOR, net, (3,) + DEEP + DEEP + DEEP, False)

    def test_an_unknown_asked_twice(self):
        self.judge(XOR, ODD, (0, 1, ("xor", (0, 1)), 0) + DEEP[3:], False)
        self.judge(XOR, LOOP, (0, 0, ("xor", (0, 0)), ("xor", (0, 0)), ("xor", (0, 0))), False)
        # On different ways it can be asked again.
        self.judge(XOR, ODD, DEEP, True)

    def test_wrong_numbers_of_branches(self):
        for tree in (DEEP[:-1], DEEP + (DEEP[-1],), DEEP + (0,), DEEP[:3], DEEP[:6], (), (0,), (0, 1)):
            self.judge(XOR, ODD, tree, False)
        self.judge(RING, Net(1, (("beats", (0, 0)),)), (0,) + (("beats", (0, 0)),) * 3, True)
        self.judge(RING, Net(1, (("beats", (0, 0)),)), (0,) + (("beats", (0, 0)),) * 2, False)
        self.judge(RING, Net(1, (("beats", (0, 0)),)), (0,) + (("beats", (0, 0)),) * 4, False)

    def test_applied_ties_that_are_none_or_do_not_clash(self):
        for index, item in enumerate(DEEP):
            for other in (("xor", (1, 0)), ("xor", (0, 0)), ("xor", (0, 3)), ("nand", (0, 1)), ("xor", [0, 1]), "xor",
                          ("xor", (0, True)), ("xor", (False, 1)), ["xor", (0, 1)], ("xor", (0, 1), 0), None, (), 3, -1,
                          True, False, "0", (0,), 10 ** 99, ("xor", (0, 1)), ("xor", (0, 2)), ("xor", (1, 2)), 0, 1, 2):
                if not same(other, item):
                    tree = DEEP[:index] + (other,) + DEEP[index + 1:]
                    self.judge(XOR, ODD, tree, is_tree(XOR, ODD, tree))

    def test_a_tie_without_rows_clashes_at_once(self):
        book = Book(2, {"never": (1, ())})
        net = Net(2, (("never", (1,)),))
        tree = (("never", (1,)),)
        self.judge(book, net, tree, True)
        self.judge(book, net, (0,) + tree + tree, True)
        self.assertEqual((asked(book, net, tree), clashes(book, net, tree)), ((), tree))
        self.assertEqual(case_paper(book, net), ("none", tree))

    def test_an_unknown_that_stands_twice_has_one_value(self):
        book = Book(2, {"t": (3, ((0, 0, 1), (0, 1, 1), (1, 1, 0)))})
        net = Net(2, (("t", (0, 1, 0)),))
        self.judge(book, net, (0, ("t", (0, 1, 0)), ("t", (0, 1, 0))), True)
        self.judge(book, net, (1, ("t", (0, 1, 0)), ("t", (0, 1, 0))), False)
        self.assertEqual(case_paper(book, net)[0], "none")

    def test_a_book_of_one_value(self):
        book = Book(1, {"never": (1, ()), "a": (1, ((0,),))})
        net = Net(2, (("a", (0,)), ("never", (1,))))
        self.judge(book, net, (0, ("never", (1,))), True)
        self.judge(book, net, (0, 1, ("never", (1,))), True)
        self.judge(book, net, (("a", (0,)),), False)

    def test_trees_near_right_ones(self):
        source = random.Random(6)
        right = 0
        for _ in range(150):
            book = random_book(source, source.randint(1, 3), source.randint(1, 3), 0.4)
            net = random_net(source, book, source.randint(1, 4), 8)
            paper = case_paper(book, net)
            self.assertIs(is_case_paper(book, net, paper), True)
            if paper[0] == "none":
                self.assertTrue(is_tree(book, net, paper[1]))
                for _ in range(20):
                    tree = list(paper[1])
                    for _ in range(source.randint(1, 2)):
                        at = source.randrange(len(tree))
                        tree[at:at + source.randint(0, 1)] = [
                            source.choice(list(paper[1]) + list(net.ties) + list(range(net.size)))
                            for _ in range(source.randint(0, 1))]
                        tree = tree or [0]
                    judged = is_tree(book, net, tuple(tree))
                    right += judged
                    self.judge(book, net, tuple(tree), judged)
        self.assertGreater(right, 50)


class Papers(unittest.TestCase):
    def check(self, book, net, word):
        before = (Book(book.size, {name: (book.places(name), book[name]) for name in book}), Net(net.size, net.ties))
        paper = case_paper(book, net)
        self.assertIs(type(paper), tuple)
        self.assertEqual(paper[0], word)
        self.assertIs(is_case_paper(book, net, paper), True)
        self.assertEqual(case_paper(book, net), paper)
        self.assertEqual((book, net), before)
        if word == "none":
            tree = paper[1]
            ties = [item for item in tree if isinstance(item, tuple)]
            self.assertEqual(clashes(book, net, tree), tuple(ties))
            self.assertEqual(asked(book, net, tree), tuple(sorted({item for item in tree if isinstance(item, int)})))

    def test_small_nets_against_a_check_of_all_tuples(self):
        source = random.Random(7)
        words = {"filled": 0, "none": 0}
        for _ in range(300):
            book = random_book(source, source.randint(1, 4), source.randint(0, 4), source.choice((0.2, 0.4, 0.6)))
            net = random_net(source, book, source.randint(0, 5), source.randint(0, 10))
            word = "filled" if all_fillings(book, net) else "none"
            words[word] += 1
            self.check(book, net, word)
        self.assertGreater(min(words.values()), 60)

    def test_long_rings(self):
        ring = [("xor", (unknown, (unknown + 1) % 59)) for unknown in range(59)]
        self.check(XOR, net_of(60, ring), "none")
        ring = [("less" if unknown == 30 else "upto", (unknown, (unknown + 1) % 60)) for unknown in range(60)]
        self.check(STEP, net_of(60, ring), "none")
        self.check(STEP, net_of(60, ring[:30] + ring[31:]), "filled")

    def test_ties_that_have_nothing_to_do_with_it(self):
        pairs = [("xor", (2 * pair, 2 * pair + 1)) for pair in range(28)]
        net = net_of(60, pairs + [("xor", (57, 58)), ("xor", (57, 59)), ("xor", (58, 59))])
        self.check(XOR, net, "none")
        self.assertEqual(asked(XOR, net, case_paper(XOR, net)[1]), (57, 58, 59))

    def test_a_part_with_many_fillings_beside_one_without(self):
        # The search tries the first part ahead of the ring, but must not go through all its fillings.
        source = random.Random(23)
        book = XOR.with_tie("even", 3, rows_where(2, 3, lambda *row: sum(row) & 1 == 0))
        ties = {("even", tuple(source.sample(range(50), 3))) for _ in range(30)}
        ring = [("xor", (unknown, 50 + (unknown - 49) % 9)) for unknown in range(50, 59)]
        many = [("even", (unknown, unknown, 59)) for unknown in range(50)]
        net = net_of(60, list(ties) + ring + many)
        self.check(book, net, "none")
        self.assertEqual(asked(book, net, case_paper(book, net)[1]), tuple(range(50, 59)))
        self.assertIsNone(first_filling(book, net))

    def test_sixty_different_unknowns(self):
        book = Book(4, {"ne": (2, rows_where(4, 2, lambda one, other: one != other))})
        self.check(book, net_of(60, [("ne", (one, other)) for one in range(60) for other in range(one)]), "none")

    def test_striking_in_many_steps(self):
        # Each row of a heap rests on two below it: values that are not 0 go up to the top, which has to be 0.
        book = Book(3, {"rest": (3, rows_where(3, 3, lambda one, other, top: not (one and other) or top > 0)),
                        "some": (1, ((1,), (2,))), "zero": (1, ((0,),))})
        places = [(level, at) for level in range(7) for at in range(7 - level)]
        numbers = {place: number for number, place in enumerate(places)}
        ties = [("some", (number,)) for number in range(7)] + [("zero", (len(places) - 1,))]
        for level, at in places[7:]:
            ties.append(("rest", (numbers[level - 1, at], numbers[level - 1, at + 1], numbers[level, at])))
        self.check(book, net_of(len(places), ties), "none")

    def test_many_applied_ties_of_three_places(self):
        source = random.Random(8)
        every = rows_where(4, 3, lambda *row: len(set(row)) > 1)
        for chance, many in ((0.5, 200), (0.5, 2000), (0.75, 20000), (0.95, 29000)):
            book = Book(4, {name: (3, tuple(row for row in every if source.random() < chance)) for name in "abcdefgh"})
            ties = {(source.choice("abcdefgh"), tuple(source.sample(range(60), 3))) for _ in range(many)}
            self.check(book, net_of(60, ties), "none")


if __name__ == "__main__":
    unittest.main()
