"""Tests of what the package uses to search: setchooser.base.masks, sieves, webs and walks."""

import itertools
import random
import unittest

from helpers import FORK, HORN, ODD, XOR, all_fillings, random_book, random_net, rows_where
from setchooser.base.masks import MANY_IN, VALUES_IN, full_mask, mask_of, rows_mask, rows_with
from setchooser.base.sieves import MOST_KEPT, Sieve
from setchooser.base.walks import Walk
from setchooser.base.webs import any_filling, does_settle, first_settled, web_of


class Masks(unittest.TestCase):
    def test_masks_and_values(self):
        for mask, values in enumerate(VALUES_IN):
            self.assertEqual(values, tuple(value for value in range(4) if mask >> value & 1))
            self.assertEqual((mask_of(values), MANY_IN[mask]), (mask, len(values)))
        self.assertEqual([full_mask(size) for size in (1, 2, 3, 4)], [1, 3, 7, 15])

    def test_sets_of_rows(self):
        every = rows_where(4, 3, lambda *row: True)
        self.assertEqual(len({rows_mask((row,)) for row in every}), 64)
        self.assertEqual(rows_mask(every), 2 ** 64 - 1)
        for place, value in itertools.product(range(3), range(4)):
            self.assertEqual(rows_with(place, value), rows_mask(tuple(row for row in every if row[place] == value)))


class Sieves(unittest.TestCase):
    def test_what_is_left(self):
        source = random.Random(24)
        sieve = Sieve()
        for _ in range(200):
            places = source.randint(1, 3)
            rows = rows_where(4, places, lambda *row: source.random() < 0.3)
            masks = tuple(source.randrange(16) for _ in range(places))
            some = [row for row in rows if all(mask >> value & 1 for mask, value in zip(masks, row))]
            left = tuple(mask_of(sorted({row[place] for row in some})) for place in range(places))
            for _ in range(2):
                self.assertEqual(sieve.left(rows_mask(rows), masks), left)

    def test_a_sieve_stays_small(self):
        sieve = Sieve()
        sieve.told = {number: () for number in range(MOST_KEPT - 1)}
        self.assertEqual(sieve.left(6, (3,)), (2,))
        self.assertEqual(len(sieve.told), MOST_KEPT)
        self.assertEqual(sieve.left(6, (7,)), (6,))
        self.assertEqual(len(sieve.told), 1)
        self.assertEqual(sieve.left(6, (3,)), (2,))


class Searches(unittest.TestCase):
    def test_a_search_begins_with_any_lists(self):
        source = random.Random(25)
        for _ in range(200):
            book = random_book(source, source.randint(2, 3), 3, 0.7)
            net = random_net(source, book, 4, 6)
            web = web_of(book, net)
            masks = [source.randrange(1, full_mask(book.size) + 1) for _ in range(4)]
            told = [filling for filling in all_fillings(book, net)
                    if all(mask >> value & 1 for mask, value in zip(masks, filling))]
            if web.narrow(masks, web.no_blame(), list(range(len(web.parts))), []) is None:
                found = any_filling(web, masks)
                self.assertIn(found, told or [None])
            else:
                self.assertEqual(told, [])

    def test_what_is_to_blame(self):
        # Unknown 0 is given a value that has nothing to do with the ring of the others.
        net = ODD.with_unknowns(1).mapped((1, 2, 3, 0), 4)
        web = web_of(XOR, net)
        masks = web.whole()
        masks[0] = 1
        self.assertEqual(web.settle(masks, [1, 0, 0, 0]), (None, 0))

    def test_first_settled(self):
        self.assertIn(first_settled(web_of(HORN, FORK), [3, 3, 3]), all_fillings(HORN, FORK))
        self.assertEqual(first_settled(web_of(HORN, FORK), [3, 2, 3]), (0, 1, 0))
        self.assertIsNone(first_settled(web_of(HORN, FORK), [2, 3, 3]))
        self.assertIsNone(first_settled(web_of(XOR, ODD), [3, 3, 3]))

    def test_masks_that_are_empty(self):
        web = web_of(XOR, ODD.without_tie("xor", (0, 1)).with_unknowns(1))
        for masks in ([3, 3, 3, 0], [0, 3, 3, 3]):
            self.assertIsNone(first_settled(web, masks))
            self.assertIsNone(Walk(web, masks).following())
        self.assertEqual(first_settled(web, [3, 3, 2, 2]), (0, 0, 1, 1))

    def test_the_masks_that_are_passed_stay_as_they_are(self):
        masks = [3, 2, 3]
        first_settled(web_of(HORN, FORK), masks)
        walk = Walk(web_of(HORN, FORK), masks)
        self.assertEqual((walk.following(), walk.following()), ((0, 1, 0), None))
        self.assertEqual(masks, [3, 2, 3])

    def test_does_settle(self):
        source = random.Random(27)
        for _ in range(60):
            book = random_book(source, source.randint(1, 4), 3, 0.7)
            net = random_net(source, book, 3, 5)
            web = web_of(book, net)
            told = all_fillings(book, net)
            for values in itertools.product(range(book.size), repeat=3):
                self.assertIs(does_settle(web, values), values in told)

    def test_a_walk_that_has_ended_stays_at_its_end(self):
        for book, net in ((HORN, FORK), (XOR, ODD), (XOR, ODD.without_tie("xor", (0, 1)))):
            walk = Walk(web_of(book, net), [3] * net.size)
            for filling in all_fillings(book, net) + [None, None]:
                self.assertEqual(walk.following(), filling)

    def test_a_walk_with_many_dead_ends(self):
        # What the first unknowns have is wrong, which shows in the ring of the last ones alone.
        book = XOR.with_tie("if", 3, rows_where(2, 3, lambda one, two, last: one or two != last))
        ring = [("if", (0, 10 + at, 10 + (at + 1) % 9)) for at in range(9)]
        net = random_net(random.Random(26), book.only(()), 20, 0)
        for name, unknowns in ring:
            net = net.with_tie(name, unknowns)
        walk = Walk(web_of(book, net), [3] * 20)
        self.assertEqual(walk.following(), (1,) + (0,) * 19)
        self.assertEqual(walk.following(), (1,) + (0,) * 18 + (1,))


if __name__ == "__main__":
    unittest.main()
