"""Tests of setchooser.more.kept: point 0.17 and stage 11."""

import itertools
import random
import unittest

from helpers import (
    FORK, HORN, RING, STEP, XOR, Checks, all_choosers, all_good, all_rows, all_shadows, least, no_books, no_choosers,
    random_book, random_rows, same, strange_values, told_by_rows)
from setchooser.base.books import Book
from setchooser.choose.choosers import chooser, choosers, does_keep
from setchooser.choose.decided import is_decided
from setchooser.choose.setnets import chooser_of
from setchooser.errors import InvalidBook, InvalidChooser, InvalidOperation, NoChooser, TooMany
from setchooser.more import kept as module
from setchooser.more.kept import (
    closure, closure_of_all, do_all_keep, does_keep_rows, is_why_in, why_in)

TWO = ((0, 1), (1, 0))
# Its good choosers are 243.
MANY = Book(3, {"a": (1, ((0,),)), "b": (1, ((1,),))})


def made_by(tables, rows):
    """The rows that some choosers make of all choices of these rows."""
    return {tuple(table[taken] for taken in shadow) for table in tables for shadow in all_shadows(rows)}


def closed_by_force(tables, rows):
    """The least set of rows with these that all of the choosers keep, by closing again and again."""
    rows = set(rows)
    while not made_by(tables, sorted(rows)) <= rows:
        rows |= made_by(tables, sorted(rows))
    return tuple(sorted(rows))


def is_such_why(book, table, rows, value):
    """Whether a dict is as the words of stage 11 tell, for values of the right form alone."""
    further = set(closed_by_force([table], rows)) - set(rows)
    if set(value) != further:
        return False
    return all(told and number >= 1 and all(row in rows or (row in value and value[row][0] < number) for row in told)
               and tuple(table[taken] for taken in told_by_rows(told)) == key for key, (number, told) in value.items())


def no_rows(book):
    """Values that are no sets of rows, equally long, of one to three values of the book."""
    size = book.size
    near = [[(0,)], ([0],), (0,), ((),), ((), (0,)), ((0, 0, 0, 0),), ((0,), (0, 0)), ((0, 0), (1,)), ((size,),),
            ((0, size),), ((-1,),), ((True,),), ((0, False),), ((0,), (0,)), ((None,),), (("0",),), (((0,),),),
            ((10 ** 99,),), ((0, 0), (0, 0)), {(0,): 0}, ((0,), None), (None, (0,)), ((0, 0), "a")]
    if size > 1:
        near += [((1,), (0,)), ((0, 1), (0, 0)), ((0, 0), (0, 1), (0, 1)), ((0,), (1,), (0, 0)), ((0, 0, 1), (0, 0, 0))]

    def is_right(value):
        return (isinstance(value, tuple) and all(
            isinstance(row, tuple) and 1 <= len(row) <= 3 and len(row) == len(value[0])
            and all(type(part) is int and 0 <= part < size for part in row) for row in value)
            and list(value) == sorted(set(value)))
    return near + [value for value in strange_values() if not is_right(value)]


class Examples(unittest.TestCase):
    def test_the_examples_of_stage_11(self):
        self.assertEqual(
            [closure(HORN, chooser(HORN), ((0, 1), (1, 0))), closure(HORN, chooser(HORN), ((1, 1),)),
             closure(XOR, chooser_of(XOR, (1, 1, 1)), ((0, 0),)), closure(HORN, chooser(HORN), ())],
            [((0, 0), (0, 1), (1, 0)), ((1, 1),), ((0, 0), (1, 1)), ()])
        self.assertEqual(
            [why_in(HORN, chooser(HORN), ((0, 1), (1, 0))),
             is_why_in(HORN, chooser(HORN), ((0, 1), (1, 0)), {(0, 0): (7, ((0, 1), (1, 0)))}),
             is_why_in(HORN, chooser(HORN), ((0, 1), (1, 0)), {})],
            [{(0, 0): (1, ((0, 1), (1, 0)))}, True, False])
        self.assertEqual(
            [do_all_keep(STEP, ((0, 1), (1, 2))), closure_of_all(STEP, ((0, 1), (1, 2))),
             do_all_keep(HORN, ((0, 0, 0), (0, 1, 1)))],
            [False, ((0, 1), (0, 2), (1, 2)), True])

    def test_the_place_of_the_functions(self):
        for name in ("does_keep_rows", "closure", "why_in", "is_why_in", "closure_of_all", "do_all_keep"):
            self.assertEqual(getattr(module, name).__module__, "setchooser.more.kept")


class Errors(unittest.TestCase, Checks):
    def test_wrong_arguments(self):
        for one in (Book(1, {}), HORN, STEP):
            book = (no_books, InvalidBook)
            table = (lambda: no_choosers(one), InvalidChooser)
            rows = (lambda: no_rows(one), InvalidOperation)
            for call in (does_keep_rows, closure, why_in):
                self.refuses(call, (one, least(one), ((0, 0),)), [book, table, rows])
            self.refuses(is_why_in, (one, least(one), ((0, 0),), {}), [book, table, rows, None])
            for call in (closure_of_all, do_all_keep):
                self.refuses(call, (one, ((0, 0),)), [book, rows])

    def test_choosers_of_other_books(self):
        for call in (does_keep_rows, closure, why_in):
            self.fails(InvalidChooser, call, STEP, least(HORN), ())
            self.fails(InvalidChooser, call, HORN, least(STEP), ())
        for value in strange_values():
            self.fails(InvalidChooser, is_why_in, STEP, least(HORN), (), value)
            self.fails(InvalidOperation, is_why_in, HORN, least(HORN), ((0,), (0, 0)), value)

    def test_the_book_is_decided(self):
        for call in (closure_of_all, do_all_keep):
            for rows in ((), ((0, 0),), TWO, ((0, 0, 0),)):
                self.fails(NoChooser, call, XOR, rows, which=("xor",))
                self.fails(NoChooser, call, RING, rows, which=("beats",))
                self.fails(NoChooser, call, XOR + HORN, rows, which=("if", "nand", "no", "xor", "yes"))
            self.fails(InvalidOperation, call, XOR, ((0, 2),))
        # The book need not be decided for one chooser.
        self.assertIs(does_keep_rows(XOR, least(XOR), ((0, 0),)), True)
        self.assertEqual(closure(RING, least(RING), ((1, 2),)), ((1, 2),))

    def test_more_than_200_choosers(self):
        for book in (MANY, Book(3, {}), Book(4, {}), Book(4, {"all": (3, all_rows(4, 3))})):
            for call in (closure_of_all, do_all_keep):
                for rows in ((), ((0, 0),), ((0,), (1,))):
                    self.fails(TooMany, call, book, rows, limit=200)
                self.fails(InvalidOperation, call, book, ((1,), (0,)))
        self.assertEqual(len(all_good(MANY)), 243)
        self.assertIs(does_keep_rows(MANY, least(MANY), ((0, 0), (1, 1))), True)

    def test_just_200_choosers(self):
        rows = ((0, 0), (0, 2), (1, 0), (1, 1), (1, 2), (2, 0), (2, 2))
        most = Book(3, {"a": (1, ((0,), (2,))), "b": (2, rows)})
        self.assertEqual(len(choosers(most)), 200)
        self.assertIs(do_all_keep(most, rows), True)
        self.assertEqual(closure_of_all(most, ((1, 1),)), closed_by_force(choosers(most), ((1, 1),)))
        self.fails(TooMany, closure_of_all, most.without_tie("a"), ((1, 1),), limit=200)


class Closures(unittest.TestCase):
    def check(self, book, table, rows):
        told = closed_by_force([table], rows)
        self.assertTrue(same(closure(book, table, rows), told))
        self.assertIs(does_keep_rows(book, table, rows), told == rows)
        why = why_in(book, table, rows)
        self.assertIs(type(why), dict)
        self.assertEqual(list(why), [row for row in told if row not in rows])
        self.assertTrue(is_such_why(book, table, rows, why))
        self.assertIs(is_why_in(book, table, rows, why), True)
        return len(why)

    def test_all_sets_of_rows_of_two_values(self):
        further = 0
        for places in (1, 2):
            every = all_rows(2, places)
            for table in all_choosers(XOR):
                for many in range(len(every) + 1):
                    for rows in itertools.combinations(every, many):
                        further += self.check(XOR, table, rows)
        self.assertGreater(further, 50)

    def test_all_sets_of_rows_of_three_values_at_one_place(self):
        every = all_rows(3, 1)
        for table in itertools.islice(all_choosers(STEP), 0, None, 11):
            for many in range(4):
                for rows in itertools.combinations(every, many):
                    self.check(STEP, table, rows)

    def test_sets_of_rows_of_three_and_four_values(self):
        source = random.Random(81)
        further = 0
        for turn in range(120):
            book = Book(source.choice((3, 4)), {})
            table = {taken: source.choice(taken if turn % 2 else range(book.size)) for taken in book.sets}
            places = source.randint(1, 3)
            every = all_rows(book.size, places)
            rows = tuple(sorted(source.sample(every, min(len(every), source.randint(0, 4)))))
            if len(closure(book, table, rows)) < 11:
                further += self.check(book, table, rows)
        self.assertGreater(further, 60)

    def test_all_sets_of_rows_of_three_values_at_two_places(self):
        source = random.Random(82)
        every = all_rows(3, 2)
        for _ in range(5):
            table = {taken: source.choice(taken) for taken in STEP.sets}
            # What is made of each set of rows, added to it: the closure is what stays so.
            for many in range(5):
                for rows in itertools.islice(itertools.combinations(every, many), 0, None, 3):
                    self.assertEqual(closure(STEP, table, rows), closed_by_force([table], rows))

    def test_it_is_as_does_keep(self):
        source = random.Random(83)
        answers = {True: 0, False: 0}
        for _ in range(150):
            size, places = source.randint(2, 4), source.randint(1, 3)
            rows = random_rows(source, size, places, source.choice((0.1, 0.5, 0.9)))
            book = Book(size, {"t": (places, rows)})
            for table in (least(book), {taken: taken[-1] for taken in book.sets},
                          {taken: source.choice(taken) for taken in book.sets}):
                kept = does_keep(book, table, "t")
                answers[kept] += 1
                self.assertIs(does_keep_rows(book, table, rows), kept)
        self.assertGreater(min(answers.values()), 40)

    def test_the_order_of_a_dict_has_no_effect(self):
        table = {(1,): 1, (0, 1): 0, (0,): 0}
        self.assertEqual(closure(HORN, table, TWO), ((0, 0), (0, 1), (1, 0)))
        self.assertEqual(list(table), [(1,), (0, 1), (0,)])

    def test_no_rows(self):
        for book in (HORN, STEP, Book(4, {})):
            self.assertIs(does_keep_rows(book, least(book), ()), True)
            self.assertEqual(closure(book, least(book), ()), ())
            self.assertEqual(why_in(book, least(book), ()), {})

    def test_rows_at_one_and_three_places(self):
        self.assertEqual(closure(STEP, least(STEP), ((1,), (2,))), ((1,), (2,)))
        self.assertEqual(closure(STEP, {**least(STEP), (1, 2): 0}, ((1,), (2,))), ((0,), (1,), (2,)))
        self.assertEqual(closure(HORN, least(HORN), ((0, 1, 1), (1, 0, 1), (1, 1, 0))), tuple(
            row for row in all_rows(2, 3) if row != (1, 1, 1)))
        self.assertIs(does_keep_rows(HORN, least(HORN), ((0, 0, 1), (0, 1, 1), (1, 1, 1))), True)

    def test_books_of_four_values_with_rows_of_three(self):
        book = Book(4, {})
        every = all_rows(4, 3)
        source = random.Random(84)
        for table in (least(book), {taken: source.choice(taken) for taken in book.sets},
                      {taken: source.randrange(4) for taken in book.sets}):
            self.assertIs(does_keep_rows(book, table, every), True)
            self.assertEqual(closure(book, table, every), every)
            self.assertEqual(why_in(book, table, every), {})
            some = tuple(sorted(source.sample(every, 12)))
            whole = closure(book, table, some)
            tie = Book(4, {"t": (3, whole)})
            self.assertIs(does_keep(tie, table, "t"), True)
            why = why_in(book, table, some)
            self.assertEqual(len(why), len(whole) - 12)
            self.assertIs(is_why_in(book, table, some, why), True)


class Why(unittest.TestCase):
    # A chooser that leads 0 to 1, 1 to 2 and 2 to 0.
    turning = {taken: (taken[0] + 1) % 3 for taken in STEP.sets}

    def judge(self, value, right, book=HORN, table=None, rows=TWO):
        self.assertIs(is_why_in(book, table or least(book), rows, value), right, value)

    def test_every_value_is_judged(self):
        for value in strange_values():
            self.judge(value, same(value, {(0, 0): (1, TWO)}))
            self.judge(value, same(value, {}), rows=())
            self.judge(value, same(value, {}), rows=((0, 1),))
            self.judge({(0, 0): value}, False)
            self.judge({(0, 0): (value, TWO)}, type(value) is int and 1 <= value < 10 ** 60)
            self.judge({(0, 0): (1, value)}, same(value, TWO))
            self.judge({(0, 0): (1, TWO, value)}, False)
            self.judge({(0, 0): (1, (value,))}, False)

    def test_numbers(self):
        for number in (1, 2, 7, 10 ** 59, 10 ** 60 - 1):
            self.judge({(0, 0): (number, TWO)}, True)
        for number in (0, -1, 10 ** 60, 10 ** 61, -10 ** 60, True, None, "1"):
            self.judge({(0, 0): (number, TWO)}, False)

    def test_rows_that_rest_on_others(self):
        # (0,) leads to (1,), which leads to (2,).
        right = {(1,): (1, ((0,),)), (2,): (2, ((1,),))}
        self.assertEqual(why_in(STEP, self.turning, ((0,),)), right)
        for first, second, judged in ((1, 2, True), (1, 1, False), (2, 1, False), (5, 9, True), (9, 5, False),
                                      (10 ** 60 - 2, 10 ** 60 - 1, True), (10 ** 60 - 1, 10 ** 60, False)):
            self.judge({(1,): (first, ((0,),)), (2,): (second, ((1,),))}, judged, STEP, self.turning, ((0,),))
        for value in ({(1,): (1, ((0,),))}, {(2,): (2, ((1,),))}, {**right, (0,): (3, ((2,),))},
                      {**right, (1,): (1, ())}, {**right, (2,): (2, ())}, {**right, (2,): (2, ((0,),))},
                      {**right, (1,): (1, ((2,),))}, {**right, (1,): (1, ((1,),))},
                      {(True,): (1, ((0,),)), (2,): (2, ((1,),))}, {(1,): (1, ((False,),)), (2,): (2, ((1,),))},
                      {(1,): (1, ((0,),)), (2,): (2, ((True,),))}, {**right, (3,): (3, ((2,),))},
                      {(1,): (1, ((0,),)), 2: (2, ((1,),))}, {(1,): [1, ((0,),)], (2,): (2, ((1,),))},
                      {(1,): (1, [(0,)]), (2,): (2, ((1,),))}, {(1,): (1, (0,)), (2,): (2, ((1,),))},
                      {(1,): (1, ((0,), (0,))), (2,): (2, ((1,),))}, {(1,): (1, ((0, 0),)), (2,): (2, ((1,),))},
                      tuple(right.items()), None, (right,)):
            self.judge(value, False, STEP, self.turning, ((0,),))

    def test_the_rows_that_are_told_make_the_row(self):
        rows = ((0, 1, 1), (1, 0, 1), (1, 1, 0))
        zero = (2, rows)
        right = {(0, 0, 0): zero, (0, 0, 1): (1, rows[:2]), (0, 1, 0): (1, (rows[0], rows[2])),
                 (1, 0, 0): (1, rows[1:])}
        self.judge(right, True, rows=rows)
        self.judge({**right, (0, 0, 0): (2, ((0, 0, 1), (0, 1, 0)))}, True, rows=rows)
        self.judge({**right, (0, 0, 0): (1, ((0, 0, 1), (0, 1, 0)))}, False, rows=rows)
        self.judge({**right, (0, 0, 0): (2, ((0, 1, 0), (0, 0, 1)))}, False, rows=rows)
        self.judge({**right, (0, 0, 0): (2, rows[:2])}, False, rows=rows)
        self.judge({**right, (0, 0, 1): (1, rows)}, False, rows=rows)
        self.judge({**right, (0, 0, 0): (3, rows + ((0, 0, 0),))}, False, rows=rows)
        self.judge({**right, (0, 0, 1): (2, ((0, 0, 1), (0, 1, 1), (1, 0, 1)))}, False, rows=rows)
        self.judge({**right, (1, 1, 1): (2, rows)}, False, rows=rows)

    def test_dicts_near_right_ones(self):
        source = random.Random(85)
        answers = {True: 0, False: 0}
        for _ in range(60):
            book = Book(source.choice((2, 3)), {})
            table = {taken: source.choice(taken if source.random() < 0.8 else range(book.size)) for taken in book.sets}
            every = all_rows(book.size, 2)
            rows = tuple(sorted(source.sample(every, source.randint(2, 3))))
            why = why_in(book, table, rows)
            for _ in range(15):
                value = dict(why)
                for _ in range(source.randint(0, 2)):
                    row = source.choice(list(value) or list(every))
                    turn = source.randrange(4)
                    if turn == 0:
                        value.pop(row, None)
                    elif turn == 1 or row not in value:
                        value[source.choice(every)] = (1, rows)
                    elif turn == 2:
                        value[row] = (source.randint(1, 9), value[row][1])
                    else:
                        value[row] = (value[row][0], tuple(sorted(source.sample(every, source.randint(1, 3)))))
                judged = is_such_why(book, table, rows, value)
                answers[judged] += 1
                self.assertIs(is_why_in(book, table, rows, value), judged, value)
        self.assertGreater(min(answers.values()), 100)

    def test_no_state_is_shared(self):
        why_in(HORN, least(HORN), TWO).clear()
        self.assertEqual(why_in(HORN, least(HORN), TWO), {(0, 0): (1, TWO)})


class All(unittest.TestCase):
    def test_closures_of_all_choosers_by_force(self):
        source = random.Random(86)
        answers = {True: 0, False: 0}
        found = 0
        while found < 60:
            book = random_book(source, source.choice((1, 2, 2, 3)), source.randint(1, 3), 0.5, places=(1, 2))
            good = all_good(book) if book.size < 3 or is_decided(book) else []
            if good and len(good) <= 200:
                found += 1
                places = source.randint(1, 2 if book.size == 3 else 3)
                every = all_rows(book.size, places)
                rows = tuple(sorted(source.sample(every, min(len(every), source.randint(0, 3)))))
                told = closed_by_force(good, rows)
                answers[told == rows] += 1
                self.assertTrue(same(closure_of_all(book, rows), told))
                self.assertIs(do_all_keep(book, rows), told == rows)
        self.assertGreater(min(answers.values()), 10)

    def test_all_choosers_keep_the_ties_of_the_book(self):
        for book in (HORN, STEP, HORN.turned((1, 0))):
            for name in book:
                self.assertIs(do_all_keep(book, book[name]), True)
                self.assertEqual(closure_of_all(book, book[name]), book[name])

    def test_what_one_chooser_keeps_but_not_all(self):
        # STEP is decided by the least value of each set, and by others.
        rows = ((0, 2), (1, 0), (1, 2))
        kept = [does_keep_rows(STEP, table, rows) for table in choosers(STEP)]
        self.assertIn(True, kept)
        self.assertIn(False, kept)
        self.assertIs(do_all_keep(STEP, rows), False)
        self.assertEqual(closure_of_all(STEP, ()), ())
        self.assertIs(do_all_keep(STEP, ()), True)

    def test_the_choosers_make_rows_of_what_others_made(self):
        book = Book(2, {"any": (1, ((0,), (1,)))})
        good = list(all_choosers(book))
        self.assertEqual(choosers(book), tuple(good))
        rows = ((0, 0, 1),)
        self.assertEqual(closure_of_all(book, rows), closed_by_force(good, rows))
        self.assertEqual(closure_of_all(book, rows), tuple(row for row in all_rows(2, 3) if row[0] == row[1]))
        self.assertEqual(closure_of_all(book, ((0, 0),)), ((0, 0), (1, 1)))

    def test_a_book_of_four_values_with_few_choosers(self):
        ones = {name: (1, ((value,),)) for value, name in enumerate("abcd")}
        join = {"join": (3, tuple((one, two, min(one, two)) for one in range(4) for two in range(4)))}
        book = Book(4, {**ones, **join})
        self.assertEqual(choosers(book), (least(book),))
        self.assertIs(do_all_keep(book, book["join"]), True)
        rows = ((0, 3, 1), (1, 2, 2), (3, 3, 0))
        self.assertEqual(closure_of_all(book, rows), closed_by_force([least(book)], rows))
        self.assertEqual(closure_of_all(book, all_rows(4, 3)), all_rows(4, 3))

    def test_one_row_more_or_less_is_not_kept(self):
        # Point 0.18: it is not true that one row more, or less, leaves a kept tie kept.
        rows = ((0, 0), (0, 1), (1, 0))
        self.assertIs(does_keep_rows(HORN, least(HORN), rows), True)
        self.assertIs(does_keep_rows(HORN, least(HORN), rows[1:]), False)
        self.assertIs(does_keep_rows(HORN, least(HORN), ((0, 1),)), True)
        self.assertIs(does_keep_rows(HORN, least(HORN), ((0, 1), (1, 0))), False)

    def test_kept_ties_are_closed_under_meets(self):
        source = random.Random(87)
        every = all_rows(3, 2)
        for _ in range(40):
            table = {taken: source.choice(taken) for taken in STEP.sets}
            one, other = [closure(STEP, table, tuple(sorted(source.sample(every, 3)))) for _ in range(2)]
            both = tuple(sorted(set(one) & set(other)))
            self.assertIs(does_keep_rows(STEP, table, both), True)

    def test_nothing_is_changed(self):
        self.assertEqual(FORK.size, 3)
        table = least(HORN)
        why_in(HORN, table, TWO)
        self.assertEqual(table, least(HORN))


if __name__ == "__main__":
    unittest.main()
