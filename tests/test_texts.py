"""Texts of machines, wishes and runs (points 65 and 66)."""

import inspect
import random
import unittest

from idlewishes.errors import BadMachine, BadRun, BadWish
from idlewishes.texts import machine_text, read_machine, read_run, read_wish, run_text, wish_text
from tests.plain import plain_walk
from tests.samples import (
    A, ALONE, B, EIGHT, FALSE, LASSO, MACHINES, ODD, OPEN, TRUE, TRUTHS, Case, nested, small_wishes,
    some_machines, some_run, some_wishes,
)

LAMP = ((0,), ((0, 1), (0, 1)), ((), (0,)))
LAMP_TEXT = "starts 0\nmarks\nways 0 1\nmarks 0\nways 0 1"
PART_WORDS = ("true", "false", "mark", "no", "and", "or", "next", "till", "ever", "always")
# What is no single figure.
NO_FIGURES = ("", "x", "00", "01", "10", "12", "-1", "+1", "-", "0.", "1,", "O", "l", "none", "a0", "0a", "()", "0\t", "\t")
# What cannot stand where a word of a part has to.
NO_PARTS = ("", "0", "3", "x", "True", "FALSE", "not", "nexts", "tru", "marks", "Mark", "mark0", "or,", "(", "~", "until")
NO_STRINGS = tuple(value for value in ODD + TRUTHS if not isinstance(value, str)) + (0, (), b"true", ["true"])


class TestMachines(Case):
    def test_by_hand(self):
        self.assertEqual(self.same_again(machine_text, LAMP), LAMP_TEXT)
        self.assertEqual(machine_text(ALONE), "starts 0\nmarks 0 1 2 3\nways 0")
        self.assertEqual(
            machine_text(LASSO), "starts 0\nmarks\nways 1\nmarks 0\nways 2\nmarks 0 1\nways 1\nmarks 2 3\nways 0 3",
        )
        self.assertEqual(machine_text(EIGHT).split("\n")[0], "starts 0 7")
        self.assertEqual(len(machine_text(EIGHT).split("\n")), 17)

    def test_read_back(self):
        for machine in MACHINES + tuple(some_machines(321, 80)):
            text = machine_text(machine)
            self.assertEqual(self.same_again(read_machine, text), machine)
            self.assertEqual(machine_text(read_machine(text)), text)

    def test_word_by_word(self):
        lines = LAMP_TEXT.split("\n")
        for at, line in enumerate(lines):
            words = line.split(" ")
            for number in range(len(words)):
                for other in NO_FIGURES + PART_WORDS + ("ahead", "ring", "Starts", "mark", "way"):
                    spoiled = words[:number] + [other] + words[number + 1:]
                    text = "\n".join(lines[:at] + [" ".join(spoiled)] + lines[at + 1:])
                    self.refuses_text(at, number, read_machine, text)
                    # What is wrong further behind is not told.
                    self.refuses_text(at, number, read_machine, text + "\n\n")
                # One more word.
                for other in ("", "x", "00", "ways"):
                    more = words[:number + 1] + [other] + words[number + 1:]
                    text = "\n".join(lines[:at] + [" ".join(more)] + lines[at + 1:])
                    self.refuses_text(at, number + 1, read_machine, text)
            # The line is not there.
            text = "\n".join(lines[:at] + lines[at + 1:])
            self.refuses_text(at, 0, read_machine, text)

    def test_two_lines_changed(self):
        self.refuses_text(0, 0, read_machine, "marks\nstarts 0\nways 0")
        self.refuses_text(1, 0, read_machine, "starts 0\nways 0\nmarks")
        self.refuses_text(1, 0, read_machine, "starts 0\nstarts 0\nmarks\nways 0")
        self.refuses_text(2, 0, read_machine, "starts 0\nmarks\nmarks\nways 0")

    def test_lines_missing(self):
        self.refuses_text(0, 0, read_machine, "")
        self.refuses_text(1, 0, read_machine, "starts")
        self.refuses_text(1, 0, read_machine, "starts 0")
        self.refuses_text(2, 0, read_machine, "starts 0\nmarks")
        self.refuses_text(4, 0, read_machine, "starts 0\nmarks\nways 0\nmarks 0")
        # What is wrong comes ahead of that.
        self.refuses_text(0, 1, read_machine, "starts x")
        self.refuses_text(1, 2, read_machine, "starts\nmarks 0 00")

    def test_spaces_and_line_feeds(self):
        for text, line, word in (
            (LAMP_TEXT + "\n", 5, 0), (LAMP_TEXT + " ", 4, 3), ("\n" + LAMP_TEXT, 0, 0), (" " + LAMP_TEXT, 0, 0),
            (LAMP_TEXT + " \n", 4, 3), ("starts  0\nmarks\nways 0", 0, 1), ("starts 0 \nmarks\nways 0", 0, 2),
            ("starts 0\nmarks \nways 0", 1, 1), ("starts 0\n marks\nways 0", 1, 0), ("starts 0\n\nmarks\nways 0", 1, 0),
            ("starts 0\nmarks\n\nways 0", 2, 0), ("starts 0\nmarks\nways 0\n\n", 3, 0), ("\n", 0, 0), (" ", 0, 0),
            ("starts 0\nmarks\nways 0 ", 2, 2), ("starts 0\nmarks\nways 0\n ", 3, 0), ("starts ", 0, 1),
            ("starts 0\nmarks\nways 0\nmark", 3, 0), ("starts\t0\nmarks\nways 0", 0, 0),
        ):
            self.refuses_text(line, word, read_machine, text)

    def test_nine_figures(self):
        eight = " 0 1 2 3 4 5 6 7"
        for at, word in enumerate(("starts", "marks", "ways")):
            lines = ["starts 0", "marks", "ways 0"]
            lines[at] = word + eight
            # By the form eight figures can stand there.
            with self.assertRaises(BadMachine):
                read_machine("\n".join(lines))
            lines[at] = word + eight + " 0"
            self.refuses_text(at, 9, read_machine, "\n".join(lines))
            lines[at] = word + " 9" * 9
            self.refuses_text(at, 9, read_machine, "\n".join(lines))
            lines[at] = word + eight + " x"
            self.refuses_text(at, 9, read_machine, "\n".join(lines))

    def test_nine_pairs_of_lines(self):
        text = "starts 0" + "\nmarks\nways 0" * 8
        self.assertEqual(read_machine(text), ((0,), ((0,),) * 8, ((),) * 8))
        for more in ("\nmarks\nways 0", "\nmarks", "\n", "\nways 0", "\nx", "\nmarks x"):
            self.refuses_text(17, 0, read_machine, text + more)
        # What is wrong ahead of that is told.
        self.refuses_text(16, 2, read_machine, text + " \nmarks")
        self.refuses_text(15, 1, read_machine, "starts 0" + "\nmarks\nways 0" * 7 + "\nmarks x\nways 0\nmarks\nways 0")

    def test_right_form_and_no_machine(self):
        for text, path in (
            ("starts\nmarks\nways 0", (0,)), ("starts 1\nmarks\nways 0", (0,)), ("starts 0 0\nmarks\nways 0", (0,)),
            ("starts 9\nmarks\nways 0", (0,)), ("starts 0\nmarks\nways", (1, 0)), ("starts 0\nmarks\nways 1", (1, 0)),
            ("starts 0\nmarks\nways 0 0", (1, 0)), ("starts 0\nmarks 4\nways 0", (2, 0)),
            ("starts 0\nmarks 1 0\nways 0", (2, 0)), ("starts 0\nmarks\nways 0\nmarks 2 2\nways 0", (2, 1)),
            ("starts 0\nmarks\nways 1 0\nmarks\nways 0", (1, 0)), ("starts 0\nmarks\nways 0\nmarks\nways 2", (1, 1)),
            # MARKS ahead of STARTS, these ahead of WAYS.
            ("starts\nmarks 9\nways", (2, 0)), ("starts\nmarks\nways", (0,)),
            ("starts 1 0\nmarks\nways 5\nmarks\nways 0", (0,)),
            ("starts 0 1 2 3 4 5 6 7\nmarks 0 1 2 3 4 5 6 7\nways 0 1 2 3 4 5 6 7", (2, 0)),
        ):
            self.refuses(BadMachine, path, read_machine, text)
        # What has not the form is told ahead of that.
        self.refuses_text(4, 1, read_machine, "starts 9\nmarks 9\nways 9\nmarks 9\nways x")

    def test_refused_arguments(self):
        for value in NO_STRINGS:
            self.refuses_text(None, None, read_machine, value)
        for value in ODD + TRUTHS + (0, ()):
            self.refuses(BadMachine, (), machine_text, value)
        self.refuses(BadMachine, (1, 0), machine_text, ((0,), ((1,),), ((),)))


class TestWishes(Case):
    def test_by_hand(self):
        for wish, text in (
            (TRUE, "true"), (FALSE, "false"), (A, "mark 0"), (("mark", 3), "mark 3"), (("no", A), "no mark 0"),
            (("till", A, ("no", B)), "till mark 0 no mark 1"), (("and", TRUE, FALSE), "and true false"),
            (("or", ("and", A, B), ("next", TRUE)), "or and mark 0 mark 1 next true"),
            (("always", ("or", ("no", A), ("ever", B))), "always or no mark 0 ever mark 1"),
            (nested("no", 11), "no " * 11 + "true"),
        ):
            self.assertEqual(self.same_again(wish_text, wish), text)
            self.assertEqual(self.same_again(read_wish, text), wish)

    def test_read_back(self):
        for wish in small_wishes(1) + small_wishes(2) + small_wishes(3) + tuple(some_wishes(323, 300)):
            text = wish_text(wish)
            self.assertEqual(read_wish(text), wish)
            words = []
            for _, part in plain_walk(wish):
                words += [part[0]] + [str(mark) for mark in part[1:] if part[0] == "mark"]
            self.assertEqual(text, " ".join(words))

    def test_word_by_word(self):
        for wish in [("till", A, ("no", B)), ("or", ("and", A, TRUE), ("next", FALSE))] + some_wishes(325, 40):
            words = wish_text(wish).split(" ")
            for number, word in enumerate(words):
                is_figure = word.isdigit()
                for other in (NO_FIGURES + PART_WORDS) if is_figure else NO_PARTS:
                    spoiled = words[:number] + [other] + words[number + 1:]
                    self.refuses_text(0, number, read_wish, " ".join(spoiled))
                    self.refuses_text(0, number, read_wish, " ".join(spoiled) + "\ntrue")
                # Too few words.
                self.refuses_text(0, number, read_wish, " ".join(words[:number]))
            # Too many words.
            for more in PART_WORDS + ("", "0", "x"):
                self.refuses_text(0, len(words), read_wish, " ".join(words + [more]))
                self.refuses_text(1, 0, read_wish, " ".join(words) + "\n" + more)
                self.refuses_text(0, len(words), read_wish, " ".join(words + [more]) + "\n" + more)

    def test_spaces_and_line_feeds(self):
        for text, line, word in (
            ("", 0, 0), (" ", 0, 0), ("\n", 0, 0), ("true ", 0, 1), (" true", 0, 0), ("true\n", 1, 0), ("true\n\n", 1, 0),
            ("no  true", 0, 1), ("mark  0", 0, 1), ("mark 0 ", 0, 2), ("mark", 0, 1), ("mark\n0", 0, 1), ("mark ", 0, 1),
            ("and true", 0, 2), ("and true ", 0, 2), ("and", 0, 1), ("and\ntrue\ntrue", 0, 1), ("no\ttrue", 0, 0),
            ("and mark 0", 0, 3), ("\ntrue", 0, 0), ("true true", 0, 1), ("mark 0 1", 0, 2), ("mark mark 0", 0, 1),
            ("till true", 0, 2), ("or or or", 0, 3), ("always", 0, 1), ("true\ntrue\ntrue", 1, 0), ("mark x", 0, 1),
        ):
            self.refuses_text(line, word, read_wish, text)

    def test_the_thirteenth_word_of_a_part(self):
        self.assertEqual(read_wish("no " * 11 + "true"), nested("no", 11))
        for more in ("true", "no true", "no", "x", "0", "mark 0", ""):
            self.refuses_text(0, 12, read_wish, "no " * 12 + more)
        # The line ends ahead of it.
        self.refuses_text(0, 12, read_wish, " ".join(["no"] * 12))
        self.refuses_text(0, 11, read_wish, " ".join(["no"] * 11))
        # Figures are no words of parts.
        wish = ("mark", 0)
        for _ in range(5):
            wish = ("and", wish, B)
        text = wish_text(wish)
        self.assertEqual(len(text.split(" ")), 5 + 12)
        self.assertEqual(read_wish("no " + text), ("no", wish))
        self.refuses_text(0, 17, read_wish, "no no " + text)
        self.refuses_text(0, 16, read_wish, "and true " + text.replace("mark 0", "true"))

    def test_right_form_and_no_wish(self):
        self.refuses(BadWish, (), read_wish, "mark 4")
        self.refuses(BadWish, (1, 2), read_wish, "no and mark 3 mark 9")
        self.refuses(BadWish, (1,), read_wish, "till mark 5 mark 6")
        # Six timed parts.
        self.refuses(BadWish, (), read_wish, "next " * 6 + "true")
        self.refuses(BadWish, (), read_wish, "and ever ever always mark 0 till next true next true")
        self.assertEqual(read_wish("next " * 5 + "true"), nested("next", 5))
        # What comes first is told: the sixth timed part, or the mark.
        self.refuses(BadWish, (), read_wish, "and next next next next next next true mark 7")
        self.refuses(BadWish, (1,), read_wish, "and mark 7 next next next next next next true")
        self.refuses_text(0, 8, read_wish, "next " * 6 + "mark 7 true")

    def test_refused_arguments(self):
        for value in NO_STRINGS:
            self.refuses_text(None, None, read_wish, value)
        for value in ODD + TRUTHS + (0, ()):
            self.refuses(BadWish, (), wish_text, value)
        self.refuses(BadWish, (2,), wish_text, ("and", A, None))


class TestRuns(Case):
    def test_by_hand(self):
        self.assertEqual(self.same_again(run_text, LAMP, ((), (0,))), "ahead\nring 0")
        self.assertEqual(self.same_again(run_text, LAMP, ((0, 1), (0, 0, 1))), "ahead 0 1\nring 0 0 1")
        self.assertEqual(self.same_again(read_run, LAMP, "ahead\nring 0"), ((), (0,)))
        told = self.same_again(read_run, EIGHT, "ahead 7 0 1\nring 2 3 4 5 6 7 0 1")
        self.assertEqual(told, ((7, 0, 1), (2, 3, 4, 5, 6, 7, 0, 1)))

    def test_read_back(self):
        chance = random.Random(327)
        for machine in list(MACHINES) * 6 + some_machines(328, 60):
            run = some_run(chance, machine, 12)
            text = run_text(machine, run)
            self.assertEqual(read_run(machine, text), run)
            self.assertEqual(text.split("\n")[0].split(" "), ["ahead"] + [str(standing) for standing in run[0]])
            self.assertEqual(text.split("\n")[1].split(" "), ["ring"] + [str(standing) for standing in run[1]])
            self.assertEqual(len(text.split("\n")), 2)

    def test_word_by_word(self):
        lines = ["ahead 0 1", "ring 0 0 1"]
        for at, line in enumerate(lines):
            words = line.split(" ")
            for number in range(len(words)):
                for other in NO_FIGURES + PART_WORDS + ("starts", "Ring", "aheads", "rings"):
                    spoiled = words[:number] + [other] + words[number + 1:]
                    text = "\n".join(lines[:at] + [" ".join(spoiled)] + lines[at + 1:])
                    self.refuses_text(at, number, read_run, LAMP, text)
                    self.refuses_text(at, number, read_run, LAMP, text + "\nx")

    def test_lines_and_spaces(self):
        for text, line, word in (
            ("", 0, 0), ("ahead", 1, 0), ("ahead 0", 1, 0), ("ring 0", 0, 0), ("ring 0\nahead", 0, 0),
            ("ahead\nahead\nring 0", 1, 0), ("ahead\nring 0\n", 2, 0), ("ahead\nring 0\nring 0", 2, 0),
            ("ahead\nring 0 ", 1, 2), ("ahead \nring 0", 0, 1), ("ahead  0\nring 0", 0, 1), ("ahead\n\nring 0", 1, 0),
            ("ahead\nring 0\nx\nx", 2, 0), (" ahead\nring 0", 0, 0), ("ahead\n", 1, 0), ("ahead ring 0", 0, 1),
            ("ahead\nring  0", 1, 1), ("ahead x", 0, 1),
        ):
            self.refuses_text(line, word, read_run, LAMP, text)

    def test_two_thousand_figures(self):
        run = ((0,) * 1999, (1,))
        self.assertEqual(read_run(LAMP, run_text(LAMP, run)), run)
        run = ((), (0, 1) * 1000)
        self.assertEqual(read_run(LAMP, run_text(LAMP, run)), run)
        # By its form each line can have 2,000.
        self.refuses(BadRun, ((0,) * 2000, (1,)), read_run, LAMP, "ahead" + " 0" * 2000 + "\nring 1")
        self.refuses(BadRun, ((0,) * 2000, (1,) * 2000), read_run, LAMP, "ahead" + " 0" * 2000 + "\nring" + " 1" * 2000)
        self.refuses_text(0, 2001, read_run, LAMP, "ahead" + " 0" * 2001 + "\nring 1")
        self.refuses_text(1, 2001, read_run, LAMP, "ahead\nring" + " 0" * 2001)
        self.refuses_text(0, 2001, read_run, LAMP, "ahead" + " 0" * 2001)
        self.refuses_text(0, 2000, read_run, LAMP, "ahead" + " 0" * 1999 + " x 0")

    def test_right_form_and_no_run(self):
        for text, run in (
            ("ahead\nring", ((), ())), ("ahead 0\nring", ((0,), ())), ("ahead\nring 1", ((), (1,))),
            ("ahead 0\nring 2", ((0,), (2,))), ("ahead 9\nring 0", ((9,), (0,))),
        ):
            self.refuses(BadRun, run, read_run, LAMP, text)
        self.refuses(BadRun, ((0,), (1,)), read_run, LASSO, "ahead 0\nring 1")

    def test_refused_arguments_in_order(self):
        for value in NO_STRINGS:
            self.refuses_text(None, None, read_run, LAMP, value)
            self.refuses(BadMachine, (), read_run, None, value)
        for value in ODD + TRUTHS + ((), ((), ()), ((), (1,)), [(), (0,)]):
            self.refuses_itself(BadRun, value, run_text, LAMP, value)
            self.refuses(BadMachine, (), run_text, None, value)
        self.refuses(BadMachine, (1,), read_run, ((0,), (), ((),)), "x")


class TestInterface(Case):
    def test_names(self):
        for call, names in (
            (machine_text, ("machine",)), (wish_text, ("wish",)), (run_text, ("machine", "run")),
            (read_machine, ("text",)), (read_wish, ("text",)), (read_run, ("machine", "text")),
        ):
            self.assertEqual(tuple(inspect.signature(call).parameters), names)
            self.assertEqual(call.__module__, "idlewishes.texts")
        self.assertEqual(read_machine(text=machine_text(machine=OPEN)), OPEN)
        self.assertEqual(read_wish(text=wish_text(wish=A)), A)
        run = ((), (0,))
        self.assertEqual(read_run(text=run_text(run=run, machine=LAMP), machine=LAMP), run)

    def test_other_strings(self):
        for text in ODD:
            if isinstance(text, str):
                self.refuses_text(0, 0, read_machine, text)
                self.refuses_text(0, 0, read_run, LAMP, text)
                if text != "true":
                    self.refuses_text(0, 0, read_wish, text)


if __name__ == "__main__":
    unittest.main()
