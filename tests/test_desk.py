"""Tests of setchooser.desk.desk: stage 18 with point 18.1."""

import itertools
import random
import unittest

from helpers import (
    FORK, HORN, ODD, RING, STEP, XOR, Checks, all_fillings, all_good, no_books, no_integers, no_names, no_nets,
    random_book, random_net, rounds, same, strange_values)
from setchooser.base.books import Book
from setchooser.base.fillings import is_case_paper
from setchooser.base.nets import MAX_APPLIED, Net
from setchooser.choose.filled import is_net_paper, net_paper
from setchooser.desk import desk as module
from setchooser.desk.desk import HOLDS, Desk
from setchooser.errors import (
    Emptied, InvalidBook, InvalidName, InvalidNet, InvalidNumber, InvalidOperation, NoChooser, NothingToUndo,
    UnknownName)

FULL = FORK.with_tie("yes", (0,))
SPLIT_ROWS = ((0, 0, 0), (0, 1, 0), (0, 1, 1), (1, 0, 0), (1, 0, 1), (1, 1, 1))
EIGHT = Book(2, {name: (1, ((0,),)) for name in "abcdefgh"})


def state(desk):
    return desk.book, desk.net, desk.held


def steps(desk):
    """How many calls can be undone, and done again."""
    undone = desk.undo(many=0)
    with desk.trial():
        redone = 0
        try:
            while desk.redo():
                redone += 1
        except NothingToUndo:
            return undone, redone


def held_desk(*what):
    desk = Desk(HORN, FORK)
    for one in what:
        desk.hold(one)
    return desk


def unequal(value, others):
    return [other for other in others if not same(value, other)]


class Record:
    """A desk as the document tells it: a state, the states ahead and behind, and each call by force."""

    def __init__(self, book, net):
        self.now = (book, net, ())
        self.past, self.ahead = [], []

    def do(self, name, *arguments):
        """Does one of the seven calls. The error that is due, or None."""
        book, net, held = self.now
        try:
            new = getattr(self, name)(book, net, held, *arguments)
            self.check(book, *new)
        except Due as due:
            return due.error
        self.past.append(self.now)
        self.now, self.ahead = new, []
        return None

    def check(self, old, book, net, held):
        if not all(book.places(name) == len(unknowns) if name in book else False for name, unknowns in net.ties):
            raise Due(InvalidOperation)
        if "decided" in held and book != old and not all_good(book):
            raise Due(NoChooser, which=book.names)
        if "filled" in held and () in rounds(book, net)[0]:
            raise Due(Emptied, unknown=rounds(book, net)[0].index(()))

    def tie(self, book, net, held, name, places, rows):
        ties = {other: (book.places(other), book[other]) for other in book}
        if not (isinstance(name, str) and 1 <= len(name) <= 8 and name.isalpha() and name.islower()):
            raise Due(InvalidName)
        try:
            return Book(book.size, {**ties, name: (places, rows)}), net, held
        except InvalidBook:
            raise Due(InvalidBook)

    def untie(self, book, net, held, name):
        if name not in book.names:
            raise Due(UnknownName, name=name)
        return book.only(tuple(other for other in book.names if other != name)), net, held

    def apply(self, book, net, held, name, unknowns):
        if name not in book.names:
            raise Due(UnknownName, name=name)
        if not (1 <= len(unknowns) <= 3 and max(unknowns) < net.size) or (name, unknowns) in net.ties:
            raise Due(InvalidOperation)
        return book, Net(net.size, tuple(sorted((*net.ties, (name, unknowns))))), held

    def unapply(self, book, net, held, name, unknowns):
        if name not in book.names:
            raise Due(UnknownName, name=name)
        if (name, unknowns) not in net.ties:
            raise Due(InvalidOperation)
        return book, Net(net.size, tuple(tie for tie in net.ties if tie != (name, unknowns))), held

    def add(self, book, net, held, many):
        if many < 0:
            raise Due(InvalidNumber, value=many)
        if net.size + many > 60:
            raise Due(InvalidNet)
        return book, Net(net.size + many, net.ties), held

    def hold(self, book, net, held, what):
        if what not in ("decided", "filled"):
            raise Due(InvalidOperation)
        if what == "decided" and not all_good(book):
            raise Due(NoChooser, which=book.names)
        if what == "filled" and "decided" not in held:
            raise Due(InvalidOperation)
        return book, net, tuple(sorted({*held, what}))

    def release(self, book, net, held, what):
        if what not in held or what == "decided" and len(held) == 2:
            raise Due(InvalidOperation)
        return book, net, tuple(other for other in held if other != what)

    def step(self, name, many):
        behind, before = (self.past, self.ahead) if name == "undo" else (self.ahead, self.past)
        if many > len(behind):
            return (NothingToUndo, {"many": many})
        for _ in range(many):
            before.append(self.now)
            self.now = behind.pop()
        return None


class Due(Exception):
    """The error that a call of the desk is due to raise."""

    def __init__(self, error, **kept):
        self.error = (error, kept)


class Examples(unittest.TestCase, Checks):
    def test_the_examples_of_stage_18(self):
        desk = Desk(HORN, FORK)
        self.assertEqual(
            [desk.hold("decided"), desk.hold("filled"), desk.held, desk.lists(), desk.apply("yes", (1,)),
             desk.lists(), str(desk)],
            [None, None, ('decided', 'filled'), ((0, 1), (0, 1), (0, 1)), None, ((0,), (1,), (0,)),
             'desk of 4 ties, 3 unknowns, 4 applied'])
        self.fails(Emptied, desk.apply, "yes", (2,), unknown=0)
        self.fails(NoChooser, desk.tie, "xor", 2, ((0, 1), (1, 0)), which=('if', 'nand', 'no', 'xor', 'yes'))
        self.assertEqual(
            [desk.undo(), desk.held, desk.release("filled"), desk.apply("yes", (0,)), desk.is_filled(),
             desk.paper()[:2], desk.undo(many=3), "filled" in desk],
            [2, ('decided', 'filled'), None, None, False, ('empty', 0), 1, False])

    def test_the_interface(self):
        self.assertEqual(HOLDS, ("decided", "filled"))
        self.assertEqual(Desk.__module__, "setchooser.desk.desk")
        self.assertEqual(module.Desk, Desk)
        for name in ("tie", "untie", "apply", "unapply", "add", "hold", "release", "lists", "is_decided", "is_filled",
                     "paper", "undo", "redo", "trial", "during", "twin", "book", "net", "held", "__contains__",
                     "__len__", "__eq__", "__str__"):
            self.assertIn(name, vars(Desk))


class Errors(unittest.TestCase, Checks):
    def test_the_arguments_of_a_desk(self):
        self.refuses(Desk, (HORN, FORK), [(no_books, InvalidBook), (no_nets, InvalidNet)])
        self.fails(InvalidOperation, Desk, XOR, FORK)
        self.fails(InvalidOperation, Desk, XOR, Net(1, (("xor", (0,)),)))
        self.fails(InvalidOperation, Desk, HORN, FORK.with_tie("maybe", (0,)))

    def unchanged(self, desk, error, call, *arguments, **kept):
        """The call raises the error, and the desk is as it was, also what can be undone and done again."""
        before = (state(desk), steps(desk))
        self.fails(error, call, *arguments, **kept)
        self.assertEqual((state(desk), steps(desk)), before)

    def test_wrong_ties(self):
        for desk in (Desk(HORN, FORK), held_desk("decided"), held_desk("decided", "filled")):
            for value in no_names():
                self.unchanged(desk, InvalidName, desk.tie, value, 2, ())
                self.unchanged(desk, InvalidName, desk.tie, value, None, None)
            for value in unequal(1, unequal(2, unequal(3, strange_values()))):
                self.unchanged(desk, InvalidBook, desk.tie, "new", value, ())
            for value in unequal((), unequal(((0, 1),), unequal(((0, 0), (0, 1)), unequal(((0, 1), (1, 0)), unequal(
                    ((0, 0),), strange_values()))))):
                self.unchanged(desk, InvalidBook, desk.tie, "new", 2, value)
            self.unchanged(desk, InvalidBook, desk.tie, "new", 2, ((1, 0), (0, 1)))
            self.unchanged(desk, InvalidBook, desk.tie, "new", 2, ((0, 2),))
            # A tie that the net applies, with another number of places; a wrong one of them is no book at all.
            self.unchanged(desk, InvalidOperation, desk.tie, "if", 1, ((0,),))
            self.unchanged(desk, InvalidOperation, desk.tie, "nand", 3, ())
            self.unchanged(desk, InvalidBook, desk.tie, "nand", 3, ((0, 0),))
            self.unchanged(desk, InvalidName, desk.tie, "If", 1, ((0,),))
            self.assertIs(desk.tie("no", 3, ()), None)
        desk = Desk(EIGHT, Net(1, (("a", (0,)),)))
        self.unchanged(desk, InvalidBook, desk.tie, "i", 1, ())
        self.unchanged(desk, InvalidOperation, desk.tie, "a", 2, ())
        self.assertIs(desk.tie("h", 2, ()), None)

    def test_wrong_names(self):
        for desk in (Desk(HORN, FORK), held_desk("decided", "filled")):
            for value in [*no_names(), "maybe", "xor", "a"]:
                self.unchanged(desk, UnknownName, desk.untie, value, name=value)
                for other in ((0, 1), (0,), None, (9,), (0, 1, 2, 3), "x"):
                    # Ahead of all other errors.
                    self.unchanged(desk, UnknownName, desk.apply, value, other, name=value)
                    self.unchanged(desk, UnknownName, desk.unapply, value, other, name=value)
            self.unchanged(desk, InvalidOperation, desk.untie, "if")
            self.unchanged(desk, InvalidOperation, desk.untie, "nand")
            self.assertIs(desk.untie("no"), None)

    def test_wrong_unknowns(self):
        near = [(), (0, 1, 2, 0), (3,), (0, 3), (-1, 0), (True, 0), (0, False), [0, 1], {0: 1}, (0, None),
                (0, 10 ** 99), (0, "1")]
        values = near + [value for value in strange_values() if not (
            isinstance(value, tuple) and 1 <= len(value) <= 3
            and all(type(part) is int and 0 <= part < 3 for part in value))]
        for desk in (Desk(HORN, FORK), held_desk("decided", "filled")):
            for value in values:
                self.unchanged(desk, InvalidOperation, desk.apply, "if", value)
                self.unchanged(desk, InvalidOperation, desk.unapply, "if", value)
            # Applied already, not applied, and with another number of places.
            self.unchanged(desk, InvalidOperation, desk.apply, "if", (0, 1))
            self.unchanged(desk, InvalidOperation, desk.unapply, "if", (1, 0))
            self.unchanged(desk, InvalidOperation, desk.unapply, "yes", (0,))
            self.unchanged(desk, InvalidOperation, desk.apply, "if", (0,))
            self.unchanged(desk, InvalidOperation, desk.apply, "yes", (0, 1))
        wide = Book(2, {name: (3, ()) for name in "abcdefgh"})
        ties = sorted((name, row) for name in "abcdefgh" for row in itertools.product(range(16), repeat=3))
        desk = Desk(wide, Net(20, tuple(ties[:MAX_APPLIED])))
        self.assertEqual(len(desk), 30000)
        self.unchanged(desk, InvalidNet, desk.apply, "h", (19, 19, 19))
        # Too many, and with another number of places: the errors of the net come first.
        self.unchanged(desk, InvalidNet, desk.apply, "h", (19, 19))

    def test_wrong_numbers(self):
        desk = Desk(HORN, FORK)
        desk.add(1)
        desk.undo()
        desk.add(1)
        for value in no_integers() + [-1, -10 ** 59]:
            self.unchanged(desk, InvalidNumber, desk.add, value, value=value)
            for call in (desk.undo, desk.redo):
                self.unchanged(desk, InvalidNumber, lambda many: call(many=many), value, value=value)
        for value in (57, 60, 10 ** 59):
            self.unchanged(desk, InvalidNet, desk.add, value)
        for value in (2, 3, 10 ** 59, 10 ** 60 - 1):
            self.unchanged(desk, NothingToUndo, lambda many: desk.undo(many=many), value, many=value)
        for value in (1, 2, 10 ** 59):
            self.unchanged(desk, NothingToUndo, lambda many: desk.redo(many=many), value, many=value)
        self.unchanged(desk, NothingToUndo, desk.redo, many=1)
        self.assertEqual([desk.add(56), desk.net.size], [None, 60])
        # Only by the name.
        for call in (desk.undo, desk.redo):
            with self.assertRaises(TypeError):
                call(1)

    def test_what_can_be_held(self):
        desk = Desk(HORN, FORK)
        for value in unequal("filled", strange_values()) + ["Decided", "decided ", "fill", "held", HOLDS, ("decided",)]:
            self.unchanged(desk, InvalidOperation, desk.hold, value)
            self.unchanged(desk, InvalidOperation, desk.release, value)
        self.unchanged(desk, InvalidOperation, desk.hold, "filled")
        self.unchanged(desk, InvalidOperation, desk.release, "decided")
        self.unchanged(desk, InvalidOperation, desk.release, "filled")
        for book, net in ((XOR, ODD), (XOR, Net(0, ())), (RING, Net(2, ())), (XOR + HORN, FORK)):
            desk = Desk(book, net)
            self.unchanged(desk, NoChooser, desk.hold, "decided", which=book.names)
            self.unchanged(desk, InvalidOperation, desk.hold, "filled")
        desk = Desk(HORN, FULL)
        # That "decided" is not held comes ahead of the net that is not filled.
        self.unchanged(desk, InvalidOperation, desk.hold, "filled")
        desk.hold("decided")
        self.unchanged(desk, Emptied, desk.hold, "filled", unknown=0)
        desk = held_desk("decided", "filled")
        self.unchanged(desk, InvalidOperation, desk.release, "decided")
        self.assertEqual([desk.release("filled"), desk.release("decided"), desk.held], [None, None, ()])


class Holding(unittest.TestCase, Checks):
    def test_what_is_held_already_is_held_again(self):
        desk = Desk(HORN, FORK)
        self.assertEqual([desk.hold("decided"), desk.hold("decided"), desk.held], [None, None, ("decided",)])
        self.assertEqual([desk.hold("filled"), desk.hold("filled"), desk.hold("decided"), desk.held],
                         [None, None, None, HOLDS])
        # Each of these calls can be undone.
        self.assertEqual([(desk.undo(), desk.held) for _ in range(5)],
                         [(4, HOLDS), (3, HOLDS), (2, ("decided",)), (1, ("decided",)), (0, ())])

    def test_the_book_stays_decided(self):
        desk = held_desk("decided")
        for name in ("xor", "ne"):
            self.fails(NoChooser, desk.tie, name, 2, XOR["xor"], which=tuple(sorted((*HORN.names, name))))
        # In the place of a tie that the net applies.
        self.fails(NoChooser, desk.tie, "if", 2, XOR["xor"], which=HORN.names)
        self.fails(InvalidOperation, desk.tie, "if", 3, SPLIT_ROWS)
        self.fails(NoChooser, desk.tie, "g", 3, SPLIT_ROWS, which=("g", "if", "nand", "no", "yes"))
        self.assertEqual([desk.untie("yes"), desk.tie("yes", 1, ()), desk.tie("some", 2, ((0, 0), (0, 1), (1, 0)))],
                         [None, None, None])
        desk.release("decided")
        self.assertEqual([desk.tie("xor", 2, XOR["xor"]), desk.is_decided()], [None, False])

    def test_nets_may_be_emptied_while_only_the_book_is_held(self):
        desk = held_desk("decided")
        self.assertEqual([desk.apply("yes", (0,)), desk.is_filled(), desk.lists()], [None, False, ((), (), ())])
        self.fails(Emptied, desk.hold, "filled", unknown=0)
        self.assertEqual([desk.unapply("yes", (0,)), desk.hold("filled"), desk.is_filled()], [None, None, True])

    def test_the_net_stays_filled(self):
        desk = held_desk("decided", "filled")
        self.fails(Emptied, desk.apply, "yes", (0,), unknown=0)
        self.assertIs(desk.apply("yes", (2,)), None)
        self.fails(Emptied, desk.apply, "yes", (1,), unknown=0)
        self.assertEqual([desk.unapply("yes", (2,)), desk.apply("yes", (1,)), desk.add(2)], [None, None, None])
        self.assertEqual(desk.add(0), None)
        # A change of the book, by which the net would not stay filled.
        self.fails(Emptied, desk.tie, "yes", 1, (), unknown=0)
        self.fails(Emptied, desk.tie, "if", 2, ((0, 0),), unknown=0)
        self.assertIs(desk.tie("yes", 1, ((0,),)), None)
        self.assertIs(desk.tie("other", 1, ()), None)
        self.fails(Emptied, desk.apply, "other", (4,), unknown=4)

    def test_a_change_that_would_lose_both(self):
        desk = held_desk("decided", "filled")
        desk.apply("yes", (1,))
        self.fails(NoChooser, desk.tie, "nand", 2, XOR["xor"], which=HORN.names)
        # Decided still, but with no row for unknown 1.
        self.fails(Emptied, desk.tie, "yes", 1, (), unknown=0)
        # Not decided, not filled, or neither.
        lost = Desk(Book(2, {"a": (2, ((0, 0), (0, 1), (1, 0), (1, 1))), "no": (1, ((0,),)), "yes": (1, ((1,),))}),
                    Net(2, (("a", (0, 1)), ("yes", (0,)), ("yes", (1,)))))
        lost.hold("decided")
        lost.hold("filled")
        self.fails(NoChooser, lost.tie, "a", 2, XOR["xor"], which=("a", "no", "yes"))
        self.fails(Emptied, lost.tie, "a", 2, ((0, 0),), unknown=0)
        self.fails(InvalidOperation, lost.tie, "a", 3, SPLIT_ROWS)

    def test_while_the_book_is_held_striking_alone_tells_whether_the_net_is_filled(self):
        source = random.Random(141)
        for _ in range(60):
            book = random_book(source, 2, 3, 0.6)
            net = random_net(source, book, 4, 5)
            desk = Desk(book, net)
            if not all_good(book):
                self.fails(NoChooser, desk.hold, "decided", which=book.names)
                continue
            desk.hold("decided")
            self.assertIs(desk.is_filled(), () not in desk.lists())
            self.assertIs(desk.is_filled(), bool(all_fillings(book, net)))


class Asked(unittest.TestCase):
    def test_lists_and_papers_of_drawn_desks(self):
        source = random.Random(142)
        counts = {}
        for _ in range(150):
            book = random_book(source, 2, source.randint(0, 3), source.choice((0.4, 0.6)))
            net = random_net(source, book, source.randint(0, 4), 5)
            desk = Desk(book, net)
            told = all_fillings(book, net)
            self.assertTrue(same(desk.lists(), rounds(book, net)[0]))
            self.assertIs(desk.is_decided(), bool(all_good(book)))
            self.assertIs(desk.is_filled(), bool(told))
            paper = desk.paper()
            if all_good(book):
                self.assertEqual(paper, net_paper(book, net))
                self.assertIs(is_net_paper(book, net, paper), True)
            else:
                self.assertIs(is_case_paper(book, net, paper), True)
            key = (bool(all_good(book)), paper[0])
            counts[key] = counts.get(key, 0) + 1
        self.assertEqual(sorted(counts), [(False, "filled"), (False, "none"), (True, "empty"), (True, "filled")])

    def test_books_that_are_not_decided(self):
        self.assertEqual([Desk(XOR, ODD).is_filled(), Desk(XOR, ODD).paper()[0]], [False, "none"])
        line = Net(60, tuple(("xor", (at, at + 1)) for at in range(59)))
        self.assertEqual([Desk(XOR, line).is_filled(), Desk(XOR, line).paper()[0]], [True, "filled"])
        self.assertEqual([Desk(XOR, ODD).is_decided(), Desk(XOR, ODD).lists()], [False, ((0, 1),) * 3])

    def test_properties_and_operators(self):
        desk = Desk(STEP, Net(2, (("less", (0, 1)),)))
        self.assertEqual([desk.book, desk.net, desk.held], [STEP, Net(2, (("less", (0, 1)),)), ()])
        self.assertEqual([len(desk), str(desk)], [1, "desk of 2 ties, 2 unknowns, 1 applied"])
        self.assertEqual([len(Desk(XOR, Net(3, ()))), str(Desk(XOR, Net(0, ())))],
                         [0, "desk of 1 ties, 0 unknowns, 0 applied"])
        for value in strange_values():
            for one, inside in ((desk, ()), (held_desk("decided"), ("decided",)), (held_desk(*HOLDS), HOLDS)):
                self.assertIs(value in one, isinstance(value, str) and value in inside)
        self.assertIs("filled" in held_desk(*HOLDS), True)
        self.assertIs("fill" in held_desk(*HOLDS), False)
        for name in ("book", "net", "held"):
            with self.assertRaises(AttributeError):
                setattr(desk, name, None)
        with self.assertRaises(TypeError):
            list(desk)
        with self.assertRaises(TypeError):
            list(desk.trial())

    def test_equality(self):
        desk = Desk(HORN, FORK)
        for value in strange_values():
            self.assertEqual((desk == value, desk != value, value == desk, value != desk), (False, True, False, True))
        self.assertEqual((desk == Desk(HORN, FORK), desk != Desk(HORN, FORK)), (True, False))
        for other in (Desk(HORN, FULL), Desk(HORN, FORK.with_unknowns(1)), Desk(HORN.without_tie("no"), FORK),
                      held_desk("decided"), held_desk(*HOLDS)):
            self.assertEqual((desk == other, desk != other, other == desk), (False, True, False))
        self.assertEqual(held_desk("decided") == held_desk(*HOLDS), False)
        # What can be undone and done again does not count.
        desk.add(1)
        self.assertNotEqual(desk, Desk(HORN, FORK))
        desk.undo()
        self.assertEqual(desk, Desk(HORN, FORK))
        desk.add(0)
        self.assertEqual(desk, Desk(HORN, FORK))


class Steps(unittest.TestCase, Checks):
    def test_undo_and_redo(self):
        desk = Desk(HORN, FORK)
        self.fails(NothingToUndo, desk.undo, many=1)
        self.fails(NothingToUndo, desk.redo, many=1)
        self.assertEqual([desk.undo(many=0), desk.redo(many=0)], [0, 0])
        states = [state(desk)]
        for name, arguments in (("add", (2,)), ("apply", ("if", (1, 3))), ("unapply", ("if", (0, 1))),
                                ("hold", ("decided",)), ("hold", ("filled",)), ("tie", ("all", 3, ())),
                                ("untie", ("no",)), ("release", ("filled",))):
            self.assertIs(getattr(desk, name)(*arguments), None)
            states.append(state(desk))
        for at in range(7, -1, -1):
            self.assertEqual(desk.undo(), at)
            self.assertEqual(state(desk), states[at])
        self.assertEqual([desk.redo(many=3), state(desk) == states[3]], [3, True])
        self.assertEqual([desk.redo(many=0), desk.undo(many=0), state(desk) == states[3]], [3, 3, True])
        self.fails(NothingToUndo, lambda: desk.redo(many=6), many=6)
        self.fails(NothingToUndo, lambda: desk.undo(many=4), many=4)
        self.assertEqual([desk.redo(many=5), state(desk) == states[8]], [8, True])
        self.assertEqual([desk.undo(many=8), state(desk) == states[0]], [0, True])
        self.assertEqual([desk.redo(), desk.redo(), desk.redo(many=1), desk.undo(many=2)], [1, 2, 3, 1])
        self.assertEqual(state(desk), states[1])

    def test_a_new_call_ends_redoing_and_an_error_does_not(self):
        desk = Desk(HORN, FORK)
        desk.add(1)
        desk.add(2)
        desk.add(3)
        desk.undo(many=2)
        for call, arguments in ((desk.add, (None,)), (desk.tie, ("A", 1, ())), (desk.untie, ("if",)),
                                (desk.apply, ("if", (0, 1))), (desk.unapply, ("no", (0,))), (desk.hold, ("filled",)),
                                (desk.release, ("decided",)), (desk.add, (60,))):
            with self.assertRaises((InvalidName, InvalidNumber, InvalidNet, InvalidOperation)):
                call(*arguments)
        # Asking does not end it either.
        desk.lists(), desk.paper(), desk.is_decided(), desk.is_filled(), desk.twin(), str(desk), desk.held
        self.assertEqual([desk.redo(many=2), desk.net.size], [3, 9])
        desk.undo(many=2)
        self.assertEqual([desk.hold("decided"), desk.undo(), desk.redo(), desk.held], [None, 1, 2, ("decided",)])
        self.fails(NothingToUndo, desk.redo, many=1)
        desk.undo()
        desk.add(0)
        self.fails(NothingToUndo, desk.redo, many=1)
        self.assertEqual([desk.net.size, desk.held], [4, ()])

    def test_many_calls(self):
        desk = Desk(HORN, Net(2, ()))
        for at in range(1500):
            desk.apply("if", (0, 1)) if at % 2 == 0 else desk.unapply("if", (0, 1))
        self.assertEqual([desk.undo(many=1499), len(desk), desk.redo(many=1000), len(desk)], [1, 1, 1001, 1])
        self.fails(NothingToUndo, lambda: desk.redo(many=500), many=500)

    def test_each_call_against_a_record(self):
        source = random.Random(143)
        counts = {}
        for _ in range(40):
            book = random_book(source, 2, source.randint(1, 3), 0.7, places=(1, 2, 2))
            net = random_net(source, book, source.randint(1, 3), 2)
            desk, record = Desk(book, net), Record(book, net)
            for _ in range(30):
                name, arguments = self.drawn_call(source, desk)
                if name in ("undo", "redo"):
                    due = record.step(name, *arguments)
                    call = lambda *told: self.assertEqual(getattr(desk, name)(many=told[0]), len(record.past))
                else:
                    due = record.do(name, *arguments)
                    call = lambda *told: self.assertIs(getattr(desk, name)(*told), None)
                key = (name, due[0].__name__ if due else None)
                counts[key] = counts.get(key, 0) + 1
                if due:
                    self.fails(due[0], lambda *told: getattr(desk, name)(many=told[0]) if name in (
                        "undo", "redo") else getattr(desk, name)(*told), *arguments, **due[1])
                else:
                    call(*arguments)
                self.assertEqual(state(desk), record.now)
                self.assertEqual(len(desk), len(record.now[1].ties))
                self.assertEqual(steps(desk), (len(record.past), len(record.ahead)))
        wanted = [("tie", None), ("tie", "NoChooser"), ("tie", "Emptied"), ("tie", "InvalidOperation"), ("untie", None),
                  ("untie", "InvalidOperation"), ("untie", "UnknownName"), ("apply", None), ("apply", "Emptied"),
                  ("apply", "InvalidOperation"), ("apply", "UnknownName"), ("unapply", None), ("add", None),
                  ("hold", None), ("hold", "NoChooser"), ("hold", "InvalidOperation"), ("release", None),
                  ("release", "InvalidOperation"), ("undo", None), ("undo", "NothingToUndo"), ("redo", None),
                  ("redo", "NothingToUndo")]
        self.assertEqual([key for key in wanted if not counts.get(key)], [])

    def drawn_call(self, source, desk):
        """A call that often is possible, and its arguments."""
        name = source.choice(("tie", "tie", "untie", "apply", "apply", "apply", "unapply", "add", "hold", "hold",
                              "release", "undo", "undo", "redo"))
        some = source.choice([*desk.book.names, "a", "b", "zz"])
        places = desk.book.places(some) if some in desk.book and source.random() < 0.9 else source.randint(1, 2)
        if name == "tie":
            rows = [row for row in itertools.product(range(2), repeat=places) if source.random() < 0.6]
            return name, (some, places, tuple(rows))
        if name == "untie":
            return name, (some,)
        if name == "unapply" and desk.net.ties and source.random() < 0.8:
            return name, source.choice(desk.net.ties)
        if name in ("apply", "unapply"):
            return name, (some, tuple(source.randrange(desk.net.size + (source.random() < 0.1)) for _ in range(places)))
        if name == "add":
            return name, (source.choice((0, 0, 1, 60)) if desk.net.size < 5 else 60,)
        if name in ("hold", "release"):
            return name, (source.choice(("decided", "filled")),)
        return name, (source.choice((0, 1, 1, 1, 2, 3, 9)),)


class Blocks(unittest.TestCase, Checks):
    def test_a_trial(self):
        desk = Desk(HORN, FORK)
        desk.add(1)
        desk.add(2)
        desk.undo()
        before = state(desk)
        with desk.trial() as same_desk:
            self.assertIs(same_desk, desk)
            desk.hold("decided")
            desk.apply("yes", (0,))
            self.assertEqual([len(desk), desk.held], [4, ("decided",)])
        self.assertEqual(state(desk), before)
        self.assertEqual([desk.redo(), desk.net.size], [2, 6])
        self.assertEqual([desk.undo(many=2), desk.net.size], [0, 3])

    def test_undoing_within_a_trial(self):
        desk = Desk(HORN, FORK)
        desk.add(1)
        desk.add(2)
        with desk.trial():
            self.assertEqual(desk.undo(many=2), 0)
            desk.hold("decided")
        self.assertEqual([desk.net.size, desk.held, desk.undo(), desk.redo()], [6, (), 1, 2])
        with desk.trial():
            desk.undo()
        self.fails(NothingToUndo, desk.redo, many=1)

    def test_blocks_within_one_another(self):
        desk = Desk(HORN, FORK)
        with desk.trial():
            desk.add(1)
            with desk.trial():
                desk.add(1)
                self.assertEqual(desk.during(lambda one: (one.add(1), one.net.size)), (None, 6))
                self.assertEqual(desk.net.size, 5)
            self.assertEqual([desk.net.size, desk.undo(), desk.redo()], [4, 0, 1])
        self.assertEqual([desk.net.size, desk.undo(many=0)], [3, 0])
        self.fails(NothingToUndo, desk.redo, many=1)

    def test_a_block_begins_when_it_is_entered(self):
        desk = Desk(HORN, FORK)
        trial = desk.trial()
        desk.add(1)
        for more in (1, 2):
            with trial:
                desk.add(more)
                self.assertEqual(desk.net.size, 4 + more)
            self.assertEqual(desk.net.size, 4)
        self.assertEqual(desk.undo(), 0)

    def test_an_error_goes_on(self):
        desk = Desk(HORN, FORK)
        desk.add(1)
        desk.undo()

        def breaks(one):
            one.hold("decided")
            one.add(1)
            raise KeyError("stop")

        with self.assertRaises(KeyError):
            desk.during(breaks)
        self.assertEqual(state(desk), (HORN, FORK, ()))
        with self.assertRaises(KeyError):
            with desk.trial() as one:
                breaks(one)
        self.assertEqual([state(desk), desk.redo()], [(HORN, FORK, ()), 1])
        self.fails(InvalidOperation, desk.during, lambda one: one.hold("filled"))
        self.fails(Emptied, desk.during, lambda one: (one.apply("yes", (0,)), one.hold("decided"), one.hold("filled")),
                   unknown=0)
        self.assertEqual([len(desk), desk.held], [3, ()])

    def test_during_returns_what_the_call_returns(self):
        desk = Desk(HORN, FORK)
        self.assertIs(desk.during(lambda one: one), desk)
        self.assertEqual(desk.during(lambda one: (one.apply("yes", (1,)), one.lists())), (None, ((0,), (1,), (0,))))
        self.assertEqual(desk.lists(), ((0, 1),) * 3)
        twin = desk.during(lambda one: (one.apply("yes", (1,)), one.twin())[1])
        # A twin that is made in a block stays as it is.
        self.assertEqual([len(twin), len(desk), twin.undo(), twin == desk], [4, 3, 0, True])

    def test_twins_go_their_own_ways(self):
        desk = Desk(HORN, FORK)
        desk.hold("decided")
        desk.add(1)
        desk.add(1)
        desk.undo()
        twin = desk.twin()
        self.assertIsNot(twin, desk)
        self.assertEqual([twin, twin.held, twin.net.size], [desk, ("decided",), 4])
        self.assertEqual([twin.redo(), desk.net.size], [3, 4])
        self.assertEqual([twin.undo(many=3), twin.held, desk.held], [0, (), ("decided",)])
        twin.tie("xor", 2, XOR["xor"])
        self.assertEqual([desk.book, desk.redo(), desk.net.size, twin.net.size], [HORN, 3, 5, 3])
        self.fails(NothingToUndo, twin.redo, many=1)
        self.assertEqual(twin.undo(), 0)


if __name__ == "__main__":
    unittest.main()
