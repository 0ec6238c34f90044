"""Tests of setchooser.text.shell: stage 20."""

import random
import unittest

from helpers import (
    FORK, HORN, ODD, RING, STEP, XOR, Checks, net_of, random_book, random_net, same, strange_values)
from setchooser.base.books import Book
from setchooser.base.nets import Net
from setchooser.choose.choosers import chooser
from setchooser.choose.decided import is_decided
from setchooser.choose.filled import common, fill
from setchooser.desk.desk import Desk
from setchooser.errors import Emptied, InvalidOperation, NoChooser, ParseError
from setchooser.more.told import told
from setchooser.strike.strikes import lists, strikes
from setchooser.text.formats import read_value, write_book, write_chooser, write_net, write_value
from setchooser.text.shell import Shell

SIXTY = "1" + "0" * 59
# The commands that only ask, and some that change something or move among what was changed.
ASKING = ("book", "net", "held", "decided", "filled", "lists", "strikes", "paper", "chooser", "fill", "common 0",
          "told 0", "told 0 1", "told 2 1 2")
CHANGING = ("tie less 2 00 01 11", "tie less 2", "untie no", "apply if 1 2", "unapply if 0 1", "add 2", "hold decided")


def shell_of(book, net):
    return Shell(write_book(book), write_net(net))


def figures(values):
    return "".join(map(str, values))


class Examples(unittest.TestCase):
    def test_the_examples_of_stage_20(self):
        shell = Shell(write_book(HORN), write_net(FORK))
        self.assertEqual(
            [shell("hold decided"), shell("lists"), shell("apply yes 1"), shell("lists"), shell("strikes"),
             shell("fill"), shell("common 0"), shell("told 1 2")],
            ['done', '01 01 01', 'done', '0 1 0', '0 1 3\n1 0 1\n2 1 2', '0 1 0', '0', '10'])
        self.assertEqual(
            [shell("tie xor 2 01 10"), shell("hold filled"), shell("apply yes 2"), shell("chooser"), shell("held"),
             shell("filled"), shell("untie nand")],
            ['undecided', 'done', 'emptied 0', '0 0\n01 0\n1 1', 'decided filled', 'yes', 'operation'])
        self.assertEqual(
            [shell("release decided"), shell("undo 9"), shell("apply maybe 1"), shell("add"), shell("undo 3"),
             shell("strikes"), shell("fly")],
            ['operation', 'undo 9', 'unknown maybe', 'what', 'done', 'none', 'what'])

    def test_the_interface(self):
        self.assertEqual(Shell.__module__, "setchooser.text.shell")
        for name in ("__init__", "__call__", "answer", "desk"):
            self.assertIn(name, vars(Shell))


class Made(unittest.TestCase, Checks):
    def test_the_first_error_of_the_texts_and_of_the_desk(self):
        book, net = write_book(HORN), write_net(FORK)
        for value in strange_values():
            if not isinstance(value, str):
                self.fails(InvalidOperation, Shell, value, net)
                self.fails(InvalidOperation, Shell, book, value)
                self.fails(InvalidOperation, Shell, value, None)
                self.fails(InvalidOperation, Shell, value, "")
                # The text of the book comes first.
                self.fails(ParseError, Shell, "values 2\ntie", value, index=1)
                self.fails(ParseError, Shell, "values 2\ntie a 1 2", value, index=2)
        self.fails(ParseError, Shell, "", net, index=0)
        self.fails(ParseError, Shell, net, book, index=0)
        self.fails(ParseError, Shell, "values 9", "x", index=1)
        self.fails(ParseError, Shell, book, "unknowns 3\napply", index=1)
        self.fails(ParseError, Shell, book, "unknowns 3\napply if 0 3", index=2)
        self.fails(ParseError, Shell, write_book(XOR), net + "\n", index=4)
        self.fails(InvalidOperation, Shell, write_book(XOR), net)
        self.fails(InvalidOperation, Shell, book, "unknowns 3\napply if 0")
        self.fails(InvalidOperation, Shell, book, "unknowns 3\napply maybe 0")

    def test_the_desk_is_a_twin(self):
        shell = shell_of(HORN, FORK)
        self.assertEqual([shell("add 1"), shell("hold decided"), shell("undo")], ["done"] * 3)
        desk = shell.desk()
        self.assertIsInstance(desk, Desk)
        self.assertEqual([desk.book, desk.net, desk.held], [HORN, FORK.with_unknowns(1), ()])
        self.assertEqual([desk.redo(), desk.held, desk.apply("yes", (0,)), desk.untie("no")], [2, ("decided",), None,
                                                                                               None])
        desk.undo(many=4)
        # What is done to it changes nothing of the shell.
        self.assertEqual([shell("net"), shell("book"), shell("held"), shell("redo"), shell("held")],
                         [write_net(FORK.with_unknowns(1)), write_book(HORN), "none", "done", "decided"])
        self.assertIsNot(shell.desk(), shell.desk())
        self.assertEqual(shell.desk(), shell.desk())
        self.assertEqual(shell.desk().undo(many=2), 0)
        self.assertEqual(shell("undo 2"), "done")

    def test_a_shell_cannot_be_iterated_over(self):
        with self.assertRaises(TypeError):
            list(shell_of(HORN, FORK))


class Answers(unittest.TestCase):
    def ask(self, book, net, line):
        """The answer to a line, which is the same of the call of the shell and of its method."""
        answer = shell_of(book, net)(line)
        self.assertEqual(shell_of(book, net).answer(line), answer)
        return answer

    def test_the_texts(self):
        for book, net in ((HORN, FORK), (XOR, ODD), (Book(1, {}), Net(0, ())), (Book(4, {"never": (2, ())}), Net(3,
                                                                                                                 ()))):
            self.assertEqual(self.ask(book, net, "book"), write_book(book))
            self.assertEqual(self.ask(book, net, "net"), write_net(net))
        self.assertEqual([self.ask(Book(1, {}), Net(0, ()), "book"), self.ask(HORN, Net(7, ()), "net")],
                         ["values 1", "unknowns 7"])

    def test_the_answer_none(self):
        net = Net(0, ())
        for line in ("held", "lists", "strikes", "fill"):
            self.assertEqual(self.ask(HORN, net, line), "none")
        self.assertEqual(self.ask(XOR, ODD, "chooser"), "none")
        full = FORK.with_tie("yes", (0,))
        self.assertEqual([self.ask(HORN, full, line) for line in ("common 1", "told 0", "told 1 2")], ["none"] * 3)
        self.assertEqual([self.ask(XOR, ODD, line) for line in ("told 0", "strikes", "held")], ["none"] * 3)
        self.assertEqual([self.ask(HORN, FORK, line) for line in ("held", "strikes")], ["none"] * 2)

    def test_lists(self):
        full = FORK.with_tie("yes", (0,))
        self.assertEqual([self.ask(HORN, net, "lists") for net in (FORK, full, FORK.with_tie("yes", (1,)))],
                         ["01 01 01", "empty empty empty", "0 1 0"])
        net = Net(3, (("less", (0, 1)),))
        self.assertEqual(self.ask(STEP, net, "lists"), "01 12 012")
        one = Net(3, (("no", (1,)), ("yes", (1,))))
        self.assertEqual(self.ask(HORN, one, "lists"), "01 empty 01")
        self.assertEqual(self.ask(Book(4, {}), Net(2, ()), "lists"), "0123 0123")

    def test_strikes(self):
        self.assertEqual(self.ask(HORN, FORK.with_tie("yes", (0,)), "strikes"), "\n".join(
            f"{unknown} {value} {rank}"
            for (unknown, value), rank in sorted(strikes(HORN, FORK.with_tie("yes", (0,))).items())))
        line = net_of(12, [("if", (at, at + 1)) for at in range(11)] + [("yes", (0,))])
        self.assertEqual(self.ask(HORN, line, "strikes"), "\n".join(f"{at} 0 {at + 1}" for at in range(12)))
        self.assertEqual(self.ask(HORN, Net(1, (("yes", (0,)),)), "strikes"), "0 0 1")

    def test_yes_and_no(self):
        full = FORK.with_tie("yes", (0,))
        for book, net, decided, filled in ((HORN, FORK, "yes", "yes"), (HORN, full, "yes", "no"), (XOR, ODD, "no",
                                                                                                   "no"),
                                           (XOR, Net(2, (("xor", (0, 1)),)), "no", "yes"),
                                           (RING, Net(0, ()), "no", "yes"), (STEP, Net(0, ()), "yes", "yes")):
            self.assertEqual([self.ask(book, net, "decided"), self.ask(book, net, "filled")], [decided, filled])

    def test_papers(self):
        full = FORK.with_tie("yes", (0,))
        for book, net in ((HORN, FORK), (HORN, full), (XOR, ODD), (XOR, Net(2, (("xor", (0, 1)),)))):
            self.assertEqual(self.ask(book, net, "paper"), write_value(Desk(book, net).paper()))
        self.assertEqual(self.ask(HORN, FORK, "paper"), "( =filled ( 0 0 0 ) )")
        self.assertEqual(self.ask(HORN, Net(0, ()), "paper"), "( =filled ( ) )")
        self.assertEqual(self.ask(HORN, Net(1, (("no", (0,)), ("yes", (0,)))), "paper"),
                         "( =empty 0 { ( 0 0 ) 1 ( 0 1 ) 1 } )")
        self.assertEqual(read_value(self.ask(XOR, ODD, "paper"))[0], "none")

    def test_choosers_and_fillings(self):
        for book, net in ((HORN, FORK), (STEP, Net(3, (("less", (1, 0)), ("upto", (1, 2)))))):
            self.assertEqual(self.ask(book, net, "chooser"), write_chooser(book, chooser(book)))
            self.assertEqual(self.ask(book, net, "fill"), " ".join(map(str, fill(book, net))))
        self.assertEqual(self.ask(HORN, FORK.with_tie("yes", (0,)), "fill"), "emptied 0")
        self.assertEqual([self.ask(XOR, ODD, "fill"), self.ask(XOR, Net(0, ()), "fill")], ["undecided", "undecided"])
        self.assertEqual(self.ask(XOR, Net(0, ()), "chooser"), "none")

    def test_common_and_told(self):
        self.assertEqual([self.ask(HORN, FORK, f"common {at}") for at in range(3)], ["0", "01", "01"])
        self.assertEqual(self.ask(STEP, Net(2, ()), "common 1"), "012")
        self.assertEqual([self.ask(HORN, FORK, f"common {at}") for at in (3, 60, SIXTY)],
                         ["number 3", "number 60", "number " + SIXTY])
        self.assertEqual([self.ask(XOR, ODD, "common 0"), self.ask(XOR, ODD, "common 3")], ["undecided", "number 3"])
        self.assertEqual([self.ask(HORN, FORK, line) for line in ("told 1 2", "told 0", "told 1 1", "told 1 2 1")],
                         ["00 01 10", "0", "00 11", "000 010 101"])
        self.assertEqual(self.ask(XOR, Net(2, (("xor", (0, 1)),)), "told 1 0"), "01 10")
        for line in ("told 3", "told 0 3", "told 0 1 2 0", "told " + SIXTY, "told" + " 0" * 300):
            self.assertEqual(self.ask(HORN, FORK, line), "operation")

    def test_what_is_held(self):
        shell = shell_of(HORN, FORK)
        self.assertEqual([shell(line) for line in (
            "held", "hold filled", "hold decided", "held", "hold decided", "hold filled", "held", "release decided",
            "release filled", "held", "release filled", "release decided", "held", "release decided")],
            ["none", "operation", "done", "decided", "done", "done", "decided filled", "operation", "done", "decided",
             "operation", "done", "none", "operation"])
        for word in ("hold", "release"):
            self.assertEqual([shell(f"{word} {name}") for name in ("maybe", "held", "fill", "desk")], ["operation"] * 4)

    def test_drawn_desks(self):
        source = random.Random(161)
        for _ in range(60):
            book = random_book(source, source.randint(1, 3), source.randint(0, 3), 0.6, places=(1, 2))
            net = random_net(source, book, source.randint(1, 5), 5)
            shell = shell_of(book, net)
            self.assertEqual(shell("lists"), " ".join(figures(left) or "empty" for left in lists(book, net)))
            self.assertEqual(shell("strikes"), "\n".join(
                f"{unknown} {value} {rank}" for (unknown, value), rank in strikes(book, net).items()) or "none")
            self.assertEqual(shell("decided"), "yes" if is_decided(book) else "no")
            self.assertEqual(shell("told 0 0"), " ".join(figures(row) for row in told(book, net, (0, 0))) or "none")
            self.assertEqual(shell("paper"), write_value(shell.desk().paper()))
            try:
                self.assertEqual(shell("fill"), " ".join(map(str, fill(book, net))))
            except Emptied as error:
                self.assertEqual(shell("fill"), f"emptied {error.unknown}")
            except NoChooser:
                self.assertEqual(shell("fill"), "undecided")
            if is_decided(book):
                self.assertEqual(shell("common 0"), figures(common(book, net, 0)) or "none")


class Changes(unittest.TestCase):
    def run_lines(self, book, net, *lines):
        """The answers to some lines, and the desk behind them."""
        shell, other = shell_of(book, net), shell_of(book, net)
        answers = [shell(line) for line in lines]
        self.assertEqual([other.answer(line) for line in lines], answers)
        return answers, shell.desk()

    def check(self, line, book, net, answer="done", start=(HORN, FORK), *ahead):
        answers, desk = self.run_lines(*start, *ahead, line)
        self.assertEqual(answers[-1], answer, line)
        self.assertEqual((desk.book, desk.net), (book, net), line)

    def test_ties(self):
        self.check("tie less 2 00 01 11", HORN.with_tie("less", 2, ((0, 0), (0, 1), (1, 1))), FORK)
        self.check("tie less 2", HORN.with_tie("less", 2, ()), FORK)
        self.check("tie no 3 000 111", HORN.with_tie("no", 3, ((0, 0, 0), (1, 1, 1))), FORK)
        self.check("untie no", HORN.without_tie("no"), FORK)
        # The call takes the tuple of the rows as they are told: in no order, twice, too long, beyond.
        for line in ("tie less 2 01 00", "tie less 2 00 00", "tie less 2 000", "tie less 2 0", "tie less 2 02",
                     "tie less 0", "tie less 4", "tie less 4 0000", "tie less " + SIXTY, "tie less 1 0 1 2",
                     "tie less 1 " + "0" * 2000):
            self.check(line, HORN, FORK, "book")
        self.check("tie if 1 0", HORN, FORK, "operation")
        self.check("untie if", HORN, FORK, "operation")
        self.check("untie maybe", HORN, FORK, "unknown maybe")
        eight = Book(2, {name: (1, ((0,),)) for name in "abcdefgh"})
        self.check("tie i 1 0", eight, Net(1, ()), "book", (eight, Net(1, ())))

    def test_applied_ties(self):
        self.check("apply if 1 2", HORN, FORK.with_tie("if", (1, 2)))
        self.check("unapply if 0 1", HORN, FORK.without_tie("if", (0, 1)))
        self.check("apply maybe 1", HORN, FORK, "unknown maybe")
        self.check("unapply maybe 1 2 3 4 5", HORN, FORK, "unknown maybe")
        for line in ("apply if 0 1", "apply if 0", "apply if 0 1 2", "apply if 0 3", "apply if 0 1 2 0",
                     "apply if 0 " + SIXTY, "unapply if 1 0", "unapply if 0", "unapply yes 0", "unapply if 0 1 2 0"):
            self.check(line, HORN, FORK, "operation")

    def test_unknowns(self):
        self.check("add 2", HORN, FORK.with_unknowns(2))
        self.check("add 0", HORN, FORK)
        self.check("add 57", HORN, FORK.with_unknowns(57))
        self.check("add 58", HORN, FORK, "net")
        self.check("add " + SIXTY, HORN, FORK, "net")

    def test_held_things_that_would_be_lost(self):
        held = ("hold decided", "hold filled")
        self.check("tie xor 2 01 10", HORN, FORK, "undecided", (HORN, FORK), *held)
        self.check("apply yes 0", HORN, FORK, "emptied 0", (HORN, FORK), *held)
        self.check("apply yes 2", HORN, FORK.with_tie("yes", (1,)), "emptied 0", (HORN, FORK), *held, "apply yes 1")
        self.check("hold decided", XOR, ODD, "undecided", (XOR, ODD))
        net = Net(4, (("no", (2,)), ("yes", (2,))))
        self.check("hold filled", HORN, net, "emptied 2", (HORN, net), "hold decided")

    def test_undo_and_redo(self):
        lines = ("undo", "redo", "undo 0", "redo 0", "add 1", "add 2", "add 3", "undo", "net", "undo 2", "net", "undo",
                 "redo 2", "net", "redo 2", "redo", "net", "redo", "undo 3", "undo 1", "undo 9", "redo 9",
                 "undo " + SIXTY,
                 "redo 3", "net")
        self.assertEqual(self.run_lines(HORN, Net(1, ()), *lines)[0], [
            "undo 1", "undo 1", "done", "done", "done", "done", "done", "done", "unknowns 4", "done", "unknowns 1",
            "undo 1",
            "done", "unknowns 4", "undo 2", "done", "unknowns 7", "undo 1", "done", "undo 1", "undo 9", "undo 9",
            "undo " + SIXTY, "done", "unknowns 7"])

    def test_an_error_changes_nothing(self):
        shell = shell_of(HORN, FORK)
        for line in ("add 1", "hold decided", "hold filled", "undo"):
            self.assertEqual(shell(line), "done")
        for line in ("tie xor 2 01 10", "tie a 1 2", "untie if", "untie x", "apply if 0 1", "apply x 0", "unapply x 0",
                     "add 60", "hold filling", "release filled", "undo 9", "redo 2", "common 9", "told 9", "what",
                     "undo x",
                     *ASKING):
            shell(line)
        self.assertEqual([shell("held"), shell("redo"), shell("held"), shell("undo 3")],
                         ["decided", "done", "decided filled", "done"])
        self.assertEqual([shell.desk().book, shell.desk().net], [HORN, FORK])


class Forms(unittest.TestCase):
    def near(self, line):
        """Lines near a command that are none."""
        words = line.split(" ")
        lines = [line.upper(), line.capitalize(), line + " ", " " + line, line + "\n", "\n" + line, line.replace(" ",
                                                                                                                 "  ",
                                                                                                                 1),
                 line + "\r", "\t" + line, line + "x", "x" + line, line + " X", line + " -1", line + " =",
                 line[:-1] + "-",
                 line.replace(" ", "\t", 1), line.replace(" ", "\n", 1), line.replace(" ", ",", 1), line + "."]
        lines += [" ".join(words[:at] + [""] + words[at:]) for at in range(len(words) + 1)]
        return [other for other in lines if other != line]

    def test_lines_near_commands(self):
        fine = {"hold decidedx", "release decidedx", "untie nox"}
        for line in (*ASKING, *CHANGING, "undo", "redo", "undo 1", "redo 1", "release decided"):
            shell = shell_of(HORN, FORK)
            before = shell.desk()
            for other in self.near(line):
                if other in fine:
                    self.assertIn(shell(other), ("operation", "unknown nox"))
                    continue
                self.assertEqual(shell(other), "what", other)
                self.assertEqual(shell.answer(other), "what", other)
            self.assertEqual(shell.desk(), before)

    def test_a_word_more_and_a_word_less(self):
        shell = shell_of(HORN, FORK)
        for line in ("book", "net", "held", "decided", "filled", "lists", "strikes", "paper", "chooser", "fill"):
            for more in ("0", "a", "decided", "00", "book"):
                self.assertEqual(shell(f"{line} {more}"), "what")
        for line in ("tie", "tie a", "tie a x", "tie 1 a", "tie a 1 x", "tie a 1 0 x", "untie", "untie 1", "untie a b",
                     "untie a 1", "apply", "apply a", "apply a b", "apply 1 a", "apply 1", "apply a 0 b", "unapply",
                     "unapply a", "unapply a 0 b", "add", "add x", "add 1 2", "add -1", "hold", "hold 1",
                     "hold decided filled",
                     "release", "release 1", "release decided 1", "undo x", "undo 1 1", "undo -1", "redo x", "redo 1 1",
                     "common", "common x", "common 0 1", "told", "told x", "told 0 x", "told x 0", "none", "done",
                     "what",
                     "empty", "values 2", "unknowns 3", "desk", "answer", "twin", "trial", "", " ", "0", "yes"):
            self.assertEqual(shell(line), "what", line)
        self.assertEqual([shell.desk().book, shell.desk().net], [HORN, FORK])

    def test_names_and_numbers(self):
        shell = shell_of(HORN, FORK)
        for number in ("01", "00", "+1", "-0", "1.0", "1_0", "1" + "0" * 60, "x", "", "0x1"):
            for line in ("add {}", "undo {}", "redo {}", "common {}", "told {}", "told 0 {}", "apply if {}",
                         "apply if 0 {}",
                         "unapply if 0 {}", "tie a {}", "tie a {} 0"):
                self.assertEqual(shell(line.format(number)), "what", line.format(number))
        for name in ("A", "abcdefghi", "a1", "a-b", "", "=a", "~"):
            for line in ("tie {} 1", "untie {}", "apply {} 0", "unapply {} 0", "hold {}", "release {}"):
                self.assertEqual(shell(line.format(name)), "what", line.format(name))
        # Any names and numbers, whatever the call says of them.
        self.assertEqual([shell(line) for line in ("untie abcdefgh", "apply abcdefgh 7 7 7 7", "hold abcdefgh",
                                                   "tie a " + SIXTY, "common " + SIXTY, "told " + SIXTY)],
                         ["unknown abcdefgh", "unknown abcdefgh", "operation", "book", "number " + SIXTY, "operation"])

    def test_values_that_are_no_lines(self):
        shell = shell_of(HORN, FORK)
        for value in strange_values():
            wanted = "yes" if value == "filled" else "what"
            self.assertEqual((shell(value), shell.answer(value)), (wanted, wanted))
        self.assertEqual([shell(["book"]), shell(("book",)), shell({"book": 1})], ["what"] * 3)

    def test_two_lines_at_once(self):
        shell = shell_of(HORN, FORK)
        for line in ("book\nnet", "add 1\nadd 1", "held\n", "undo\n1", "tie a 1\n0", "told 0\n1", "hold decided\n"):
            self.assertEqual(shell(line), "what")

    def test_equal_lines_have_equal_answers(self):
        for line in (*ASKING, *CHANGING):
            one, other = shell_of(HORN, FORK), shell_of(HORN, FORK)
            self.assertEqual(one(line), other.answer(line))
            self.assertEqual(one.desk(), other.desk())
            self.assertTrue(same(one("book"), other("book")))


if __name__ == "__main__":
    unittest.main()
