"""Tests of setchooser.more.maps, the trees and their papers: points 16.2 and 16.3."""

import itertools
import random
import unittest

from helpers import (
    FORK, HORN, ODD, STEP, XOR, Checks, all_fillings, net_of, no_books, no_nets, random_book, random_net,
    rounds, rows_where, same, strange_values)
from setchooser.base.books import Book
from setchooser.base.fillings import first_filling
from setchooser.base.nets import Net
from setchooser.choose.decided import is_decided
from setchooser.errors import Emptied, InvalidBook, InvalidNet, InvalidOperation, TooMany
from setchooser.more.maps import fill_tree, is_net_map, is_tree, is_tree_paper, tree_paper
from setchooser.strike.strikes import emptied

FULL = FORK.with_tie("yes", (0,))
TREE = Net(4, (("if", (0, 1)), ("if", (3, 2)), ("nand", (1, 2)), ("yes", (0,)), ("yes", (3,))))
MAP = (0, 1, 2, 0)
# Each unknown is one more than the one ahead of it.
NEXT = Book(3, {"next": (2, ((0, 1), (1, 2)))})

# What follows of one or two others that are 1, and what is given.
RULES = Book(2, {"and": (3, rows_where(2, 3, lambda one, two, last: last or not (one and two))),
                 "if": (2, ((0, 0), (0, 1), (1, 1))), "no": (1, ((0,),)), "yes": (1, ((1,),))})


def has_ring(net):
    """Whether there is a row of different applied ties that share different unknowns, by the words of 16.2."""
    def goes_on(ties, shared):
        last = ties[-1]
        for unknown in set(last[1]) - set(shared):
            if len(ties) > 1 and unknown in ties[0][1]:
                return True
            for tie in net.ties:
                if tie not in ties and unknown in tie[1] and goes_on([*ties, tie], [*shared, unknown]):
                    return True
        return False
    return any(goes_on([tie], []) for tie in net.ties)


def is_tree_by_force(net):
    return all(len(set(unknowns)) == len(unknowns) for name, unknowns in net.ties) and not has_ring(net)


def unfolded_size(book, net):
    """The number of the unknowns of the unfolding, by the words of 16.3, None if striking leaves all some value."""
    left, ranks = rounds(book, net)
    if () not in left:
        return None

    def size(x, values):
        total = 1
        for v in sorted(values):
            tie, place, wanted = found(x, v)
            total += sum(size(tie[1][at], wanted[at]) for at in range(len(tie[1])) if at != place)
        return total

    def struck(tie, place, row, rank):
        return [at for at, unknown in enumerate(tie[1])
                if at != place and ranks.get((unknown, row[at]), rank) < rank]

    def found(x, v):
        for tie in net.ties:
            for place, unknown in enumerate(tie[1]):
                rows = [row for row in book[tie[0]] if row[place] == v]
                if unknown == x and all(struck(tie, place, row, ranks[x, v]) for row in rows):
                    wanted = {at: set() for at in range(len(tie[1]))}
                    for row in rows:
                        first = struck(tie, place, row, ranks[x, v])[0]
                        wanted[first].add(row[first])
                    return tie, place, wanted
        raise AssertionError("no tie strikes the value")

    return size(left.index(()), range(book.size))


def drawn_tree(source, book, size):
    """A tree of ties of the book."""
    ties = set()
    groups = list(range(size))
    for _ in range(3 * size):
        name = source.choice(book.names)
        if book.places(name) <= size:
            unknowns = tuple(source.sample(range(size), book.places(name)))
            held = [groups[unknown] for unknown in unknowns]
            if len(set(held)) == len(held):
                ties.add((name, unknowns))
                groups = [held[0] if group in held else group for group in groups]
    return Net(size, tuple(sorted(ties)))


def chain(many):
    """A net of the book NEXT, a row of so many unknowns, each one more than the one ahead of it."""
    return net_of(many, [("next", (at, at + 1)) for at in range(many - 1)])


class Examples(unittest.TestCase):
    def test_the_examples_of_stage_16_on_trees(self):
        self.assertEqual(
            [is_tree(FORK), is_tree(Net(3, (("if", (0, 1)), ("if", (1, 2))))), is_tree(Net(1, (("xor", (0, 0)),)))],
            [False, True, False])
        full = FORK.with_tie("yes", (0,))
        tree = Net(4, (("if", (0, 1)), ("if", (3, 2)), ("nand", (1, 2)), ("yes", (0,)), ("yes", (3,))))
        self.assertEqual(
            [is_tree(tree), is_net_map(tree, full, (0, 1, 2, 0)), is_tree_paper(HORN, full, (tree, (0, 1, 2, 0))),
             tree_paper(HORN, FORK), is_tree_paper(HORN, full, (full, (0, 1, 2)))],
            [True, True, True, None, False])
        self.assertEqual(fill_tree(STEP, Net(3, (("less", (0, 1)), ("upto", (1, 2))))), (0, 1, 1))


class Errors(unittest.TestCase, Checks):
    def test_wrong_arguments(self):
        book, net = (no_books, InvalidBook), (no_nets, InvalidNet)
        self.refuses(is_tree, (TREE,), [net])
        self.refuses(fill_tree, (HORN, Net(0, ())), [book, net])
        self.refuses(tree_paper, (HORN, FULL), [book, net])
        self.refuses(is_tree_paper, (HORN, FULL, (TREE, MAP)), [book, net, None])

    def test_nets_that_do_not_belong_to_the_book(self):
        for call in (fill_tree, tree_paper):
            self.fails(InvalidOperation, call, XOR, FULL)
            self.fails(InvalidOperation, call, XOR, Net(1, (("xor", (0,)),)))
            self.fails(InvalidBook, call, None, Net(1, (("xor", (0,)),)))
        for value in strange_values():
            self.fails(InvalidOperation, is_tree_paper, XOR, FULL, value)
        # Ahead of the error for a list that is left empty.
        self.fails(InvalidOperation, fill_tree, HORN, Net(1, (("maybe", (0,)), ("no", (0,)), ("yes", (0,)))))

    def test_no_tree_and_a_list_left_empty(self):
        self.assertEqual(emptied(HORN, FULL), 0)
        self.fails(InvalidOperation, fill_tree, HORN, FULL)
        self.fails(InvalidOperation, fill_tree, HORN, FORK)
        self.fails(Emptied, fill_tree, HORN, TREE, unknown=0)
        self.fails(Emptied, fill_tree, NEXT, chain(4), unknown=0)
        late = Net(3, (("no", (1,)), ("no", (2,)), ("yes", (1,)), ("yes", (2,))))
        self.fails(Emptied, fill_tree, HORN, late, unknown=1)


class Trees(unittest.TestCase):
    def judge(self, right, size, *ties):
        net = net_of(size, ties)
        self.assertIs(is_tree(net), right, net.ties)
        self.assertIs(is_tree_by_force(net), right, net.ties)

    def test_nets_told_by_hand(self):
        self.judge(True, 0)
        self.judge(True, 60)
        self.judge(True, 1, ("a", (0,)), ("b", (0,)), ("c", (0,)))
        self.judge(True, 3, ("t", (0, 1, 2)))
        # An unknown twice.
        self.judge(False, 1, ("a", (0, 0)))
        self.judge(False, 3, ("t", (0, 1, 0)))
        self.judge(False, 3, ("t", (2, 1, 1)))
        # One shared unknown, and two of them: under other names, in the other order, of ties of three places.
        self.judge(True, 3, ("a", (0, 1)), ("a", (1, 2)))
        self.judge(False, 2, ("a", (0, 1)), ("b", (0, 1)))
        self.judge(False, 2, ("a", (0, 1)), ("a", (1, 0)))
        self.judge(True, 5, ("t", (0, 1, 2)), ("t", (2, 3, 4)))
        self.judge(False, 4, ("t", (0, 1, 2)), ("t", (1, 2, 3)))
        self.judge(False, 3, ("t", (0, 1, 2)), ("a", (2, 0)))
        self.judge(True, 3, ("t", (0, 1, 2)), ("a", (2,)), ("a", (0,)))
        # Rings of three and more.
        self.judge(False, 3, ("a", (0, 1)), ("a", (1, 2)), ("a", (2, 0)))
        self.judge(False, 4, ("a", (0, 1)), ("a", (1, 2)), ("a", (2, 3)), ("a", (3, 0)))
        self.judge(True, 4, ("a", (0, 1)), ("a", (1, 2)), ("a", (2, 3)))
        self.judge(False, 5, ("t", (0, 1, 2)), ("t", (2, 3, 4)), ("a", (4, 0)))
        self.judge(False, 6, ("t", (0, 1, 2)), ("t", (2, 3, 4)), ("t", (4, 5, 0)))
        # Three ties and more that meet at one unknown only.
        self.judge(True, 4, ("a", (0, 1)), ("a", (0, 2)), ("a", (0, 3)))
        self.judge(True, 7, ("t", (0, 1, 2)), ("t", (0, 3, 4)), ("t", (5, 0, 6)), ("a", (0,)))
        # A ring away from the rest.
        self.judge(False, 60, ("a", (0, 1)), ("a", (57, 58)), ("a", (58, 59)), ("a", (59, 57)))

    def test_drawn_nets_by_force(self):
        source = random.Random(121)
        counts = {True: 0, False: 0}
        for _ in range(400):
            book = Book(1, {name: (places, ()) for name, places in zip("abc", source.choices((1, 2, 2, 3), k=3))})
            net = random_net(source, book, source.randint(0, 7), source.randint(0, 5))
            right = is_tree_by_force(net)
            counts[right] += 1
            self.assertIs(is_tree(net), right)
        self.assertGreater(min(counts.values()), 80)
        for _ in range(30):
            self.assertIs(is_tree(drawn_tree(source, STEP, 40)), True)

    def test_large_nets(self):
        row = [("a", (at, at + 1)) for at in range(59)]
        self.assertIs(is_tree(net_of(60, row)), True)
        self.assertIs(is_tree(net_of(60, row + [("a", (59, 0))])), False)
        one_place = [(one + two, (at,)) for one in "abcdefghijklmnopqrst" for two in "abcdefghijklmnopqrst"
                     for at in range(60)]
        self.assertIs(is_tree(net_of(60, row + one_place)), True)


class Fillings(unittest.TestCase, Checks):
    def test_all_fillings_by_force(self):
        source = random.Random(122)
        counts = {}
        for _ in range(300):
            book = random_book(source, source.randint(1, 3), source.randint(1, 3), source.choice((0.3, 0.5)))
            net = drawn_tree(source, book, source.randint(0, 5))
            told = all_fillings(book, net)
            # Striking tells of a tree whether it has a filling, whether the book is decided or not.
            self.assertEqual(emptied(book, net) is None, bool(told))
            if told:
                self.assertTrue(same(fill_tree(book, net), told[0]))
            else:
                self.fails(Emptied, fill_tree, book, net, unknown=rounds(book, net)[0].index(()))
            key = (is_decided(book), bool(told))
            counts[key] = counts.get(key, 0) + 1
        self.assertEqual(len(counts), 4)
        self.assertGreater(min(counts.values()), 5)

    def test_large_trees(self):
        source = random.Random(123)
        book = Book(4, {"ne": (2, rows_where(4, 2, lambda one, other: one != other)),
                        "sum": (3, rows_where(4, 3, lambda *row: sum(row) % 4 == 1)), "up": (1, ((2,), (3,)))})
        for _ in range(20):
            net = drawn_tree(source, book, 60)
            if emptied(book, net) is None:
                self.assertEqual(fill_tree(book, net), first_filling(book, net))
            else:
                self.assertEqual(first_filling(book, net), None)
        self.assertEqual(fill_tree(XOR, net_of(60, [("xor", (at, at + 1)) for at in range(59)])), (0, 1) * 30)
        self.assertEqual(fill_tree(XOR, Net(0, ())), ())
        self.assertEqual(fill_tree(XOR, Net(3, ())), (0, 0, 0))


class Papers(unittest.TestCase, Checks):
    def right(self, book, net, value):
        """Whether the value is a paper, by the words of the document."""
        if () not in rounds(book, net)[0]:
            return value is None
        if not isinstance(value, tuple) or len(value) != 2 or not isinstance(value[0], Net):
            return False
        tree, moved = value
        if not is_tree_by_force(tree) or not is_net_map(tree, net, moved):
            return False
        return first_filling(book, tree) is None

    def test_drawn_nets_of_which_striking_empties_a_list(self):
        source = random.Random(124)
        counts = {"none": 0, "many": 0, "paper": 0}
        sizes = set()
        for _ in range(500):
            book = random_book(source, source.randint(1, 3), source.randint(1, 3), source.choice((0.3, 0.5)))
            net = random_net(source, book, source.randint(1, 6), source.randint(1, 8))
            size = unfolded_size(book, net)
            if size is None:
                counts["none"] += 1
                self.assertIs(tree_paper(book, net), None)
                self.assertIs(is_tree_paper(book, net, None), True)
            elif size > 60:
                counts["many"] += 1
                self.fails(TooMany, tree_paper, book, net, limit=60)
                self.assertIs(is_tree_paper(book, net, None), False)
            else:
                counts["paper"] += 1
                sizes.add(size)
                paper = tree_paper(book, net)
                self.assertTrue(self.right(book, net, paper))
                self.assertIs(is_tree_paper(book, net, paper), True)
                self.assertIs(is_tree_paper(book, net, None), False)
        self.assertGreater(counts["none"], 80)
        self.assertGreater(counts["paper"], 150)
        self.assertGreater(len(sizes), 8)

    def test_deep_drawn_nets(self):
        source = random.Random(125)
        sizes = []
        for _ in range(60):
            layers = source.randint(3, 7)
            # Each unknown is 1 by one or two of the next layer, of which the last one is given.
            ties = [("no", (0,))] + [("yes", (3 * layers + at,)) for at in range(3)]
            for at in range(3 * layers):
                ahead = source.sample([3 * (at // 3) + 3 + more for more in range(3)], source.choice((1, 2, 2, 2)))
                ties.append(("if" if len(ahead) == 1 else "and", (*ahead, at)))
            net = net_of(3 * layers + 3, ties)
            sizes.append(unfolded_size(RULES, net))
            if sizes[-1] > 60:
                self.fails(TooMany, tree_paper, RULES, net, limit=60)
            else:
                tree, moved = tree_paper(RULES, net)
                self.assertTrue(self.right(RULES, net, (tree, moved)))
                self.assertIs(is_tree_paper(RULES, net, (tree, moved)), True)
        self.assertGreater(len({size for size in sizes if size <= 60}), 8)
        self.assertGreater(len([size for size in sizes if size > 60]), 5)

    def test_just_sixty_unknowns_and_one_more(self):
        for size in (3, 4, 10, 58, 59):
            net = self.forked(size)
            self.assertEqual(unfolded_size(HORN, net), size + 1)
            tree, moved = tree_paper(HORN, net)
            self.assertTrue(self.right(HORN, net, (tree, moved)))
            self.assertIs(is_tree_paper(HORN, net, (tree, moved)), True)
        self.assertEqual(tree_paper(HORN, self.forked(59))[0].size, 60)
        net = self.forked(60)
        self.assertEqual(unfolded_size(HORN, net), 61)
        self.fails(TooMany, tree_paper, HORN, net, limit=60)
        self.assertIs(is_tree_paper(HORN, net, None), False)
        # There are no other papers of it by chance: the net itself is no tree.
        self.assertIs(is_tree_paper(HORN, net, (net, tuple(range(60)))), False)

    def forked(self, size):
        """As FULL: two rows of implications from unknown 0, which is 1, to unknowns that are not both 1."""
        half = size // 2
        first, second = [0, *range(1, half + 1)], [0, *range(half + 1, size)]
        ties = [("if", pair) for row in (first, second) for pair in zip(row, row[1:])]
        return net_of(size, ties + [("nand", (first[-1], second[-1])), ("yes", (0,))])

    def test_too_many_comes_behind_all_other_errors(self):
        net = self.forked(60)
        self.fails(TooMany, tree_paper, HORN, net, limit=60)
        self.fails(InvalidOperation, tree_paper, HORN.without_tie("nand"), net)
        self.fails(InvalidOperation, tree_paper, XOR, net)
        self.fails(InvalidBook, tree_paper, None, net)
        self.fails(InvalidNet, tree_paper, HORN, (net,))

    def test_unfoldings_that_double_again_and_again(self):
        # Each unknown is struck by two that are struck by the two behind them, so the tree doubles at each step.
        for many, right in ((4, True), (5, False), (20, False)):
            ties = [("and", (2 * at + 2, 2 * at + 3, 2 * at)) for at in range(many)]
            ties += [("and", (2 * at + 2, 2 * at + 3, 2 * at + 1)) for at in range(many)]
            ties += [("yes", (2 * many,)), ("yes", (2 * many + 1,)), ("no", (0,))]
            net = net_of(2 * many + 2, ties)
            if right:
                self.assertEqual(tree_paper(RULES, net)[0].size, 2 ** (many + 1) - 1)
                self.assertTrue(self.right(RULES, net, tree_paper(RULES, net)))
            else:
                self.fails(TooMany, tree_paper, RULES, net, limit=60)

    def test_an_unknown_at_several_places_of_one_tie(self):
        for net in (Net(1, (("less", (0, 0)),)), Net(2, (("less", (0, 1)), ("less", (1, 0)))),
                    Net(3, (("less", (0, 0)), ("upto", (1, 0)), ("upto", (2, 2))))):
            size = unfolded_size(STEP, net)
            tree, moved = tree_paper(STEP, net)
            self.assertLessEqual(size, 60)
            self.assertTrue(self.right(STEP, net, (tree, moved)))
            self.assertIs(is_tree_paper(STEP, net, (tree, moved)), True)
        same_three = Book(2, {"t": (3, ((0, 0, 1), (0, 1, 0), (1, 0, 0))), "yes": (1, ((1,),))})
        net = Net(1, (("t", (0, 0, 0)), ("yes", (0,))))
        self.assertTrue(self.right(same_three, net, tree_paper(same_three, net)))

    def test_a_tie_of_one_place_that_strikes_two_values(self):
        book = Book(3, {"a": (1, ((0,),)), "b": (1, ((1,),)), "never": (3, ())})
        net = Net(2, (("a", (1,)), ("b", (1,))))
        paper = tree_paper(book, net)
        self.assertEqual(unfolded_size(book, net), 1)
        self.assertTrue(self.right(book, net, paper))
        self.assertIs(is_tree_paper(book, net, (Net(1, (("a", (0,)), ("b", (0,)))), (1,))), True)
        net = Net(1, (("never", (0, 0, 0)),))
        self.assertTrue(self.right(book, net, tree_paper(book, net)))
        self.assertEqual(unfolded_size(book, net), 7)

    def test_right_pairs_that_the_package_did_not_make(self):
        self.assertIs(is_tree_paper(HORN, FULL, (TREE, MAP)), True)
        more = TREE.with_unknowns(2).with_tie("if", (4, 5)).with_tie("nand", (1, 4))
        self.assertFalse(is_net_map(more, FULL, (*MAP, 0, 1)))
        more = TREE.with_unknowns(2).with_tie("if", (4, 1))
        for moved in ((*MAP, 0, 0), (*MAP, 0, 2)):
            self.assertIs(is_tree_paper(HORN, FULL, (more, moved)), True)
        turned = TREE.mapped((3, 1, 0, 2), 4)
        self.assertIs(is_tree_paper(HORN, FULL, (turned, (2, 1, 0, 0))), True)
        # A net that is a tree itself.
        one = Net(4, (("if", (0, 1)), ("no", (1,)), ("yes", (0,)), ("yes", (3,))))
        self.assertIs(is_tree_paper(HORN, one, (one, (0, 1, 2, 3))), True)
        self.assertIs(is_tree_paper(HORN, one, (one, (0, 1, 3, 3))), True)
        self.assertIs(is_tree_paper(HORN, one, (one.without_tie("yes", (3,)), (0, 1, 2, 3))), True)
        self.assertIs(is_tree_paper(HORN, one, (one.without_tie("yes", (0,)), (0, 1, 2, 3))), False)
        # A tree of sixty unknowns for a net whose unfolding has more.
        net = self.forked(60).with_tie("no", (59,))
        self.assertIs(is_tree_paper(HORN, net, (self.forked(60), tuple(range(60)))), False)
        row = net.without_tie("nand", (30, 59))
        self.assertIs(is_tree_paper(HORN, net, (row, tuple(range(60)))), True)

    def test_values_near_right_pairs(self):
        self.assertIs(is_tree_paper(HORN, FULL, (TREE, MAP)), True)
        for value in ([TREE, MAP], (TREE,), (TREE, MAP, None), (MAP, TREE), (TREE, list(MAP)), (TREE, MAP[:3]),
                      (TREE, (*MAP, 0)), (TREE, (False, 1, 2, 0)), (TREE, (0, True, 2, 0)), (TREE, (0, 2, 1, 0)),
                      (TREE, (0, 1, 2, 3)), (TREE, None), (None, MAP), (FULL, (0, 1, 2)), (FORK, (0, 1, 2)),
                      (TREE.ties, MAP), TREE, MAP, None, ("tree", TREE, MAP), (HORN, MAP), (TREE, TREE)):
            self.assertIs(is_tree_paper(HORN, FULL, value), False, value)
        for name, unknowns in TREE.ties:
            # Each tie is needed for that there is no filling.
            self.assertIs(is_tree_paper(HORN, FULL, (TREE.without_tie(name, unknowns), MAP)), False)
        # A net that is no tree, with a net map and without a filling.
        closed = TREE.with_tie("if", (3, 1))
        self.assertIs(is_net_map(closed, FULL, MAP), True)
        self.assertIs(is_tree_paper(HORN, FULL, (closed, MAP)), False)
        # A tree without a filling of which a tie is not one of the net.
        self.assertIs(is_tree_paper(HORN, FULL, (Net(1, (("no", (0,)), ("yes", (0,)))), (0,))), False)
        self.assertIs(is_tree_paper(HORN, FULL, (Net(1, (("maybe", (0,)),)), (0,))), False)
        for value in strange_values():
            self.assertIs(is_tree_paper(HORN, FULL, value), False, value)
            self.assertIs(is_tree_paper(HORN, FULL, (TREE, value)), False, value)
            self.assertIs(is_tree_paper(HORN, FULL, (value, MAP)), False, value)
            self.assertIs(is_tree_paper(HORN, FORK, value), same(value, None))
            self.assertIs(is_tree_paper(XOR, ODD, value), same(value, None))
        self.assertIs(is_tree_paper(HORN, FORK, (TREE, MAP)), False)

    def test_nets_without_a_filling_that_striking_leaves_values(self):
        self.assertIs(first_filling(XOR, ODD), None)
        self.assertIs(tree_paper(XOR, ODD), None)
        self.assertIs(tree_paper(XOR, Net(0, ())), None)


if __name__ == "__main__":
    unittest.main()
