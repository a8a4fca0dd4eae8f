"""A desk: lines, and what is answered (the heading of desk.py in the interface, points 64 to 66)."""

import inspect
import random
import unittest

from idlewishes.desk import Desk
from idlewishes.errors import BadMachine, BadWish
from idlewishes.idle import idle_parts
from idlewishes.keeping import keeps
from idlewishes.monitors import shortest_row, verdict
from idlewishes.shortest import shortest_failing
from idlewishes.texts import machine_text, wish_text
from idlewishes.watch import Watch
from tests.samples import (
    A, ALONE, B, EIGHT, FALSE, LASSO, ODD, OPEN, TRUE, TRUTHS, Case, lively, nested, some_machines, some_wishes,
)

LAMP = ((0,), ((0, 1), (0, 1)), ((), (0,)))
LAMP_TEXT = "starts 0\nmarks\nways 0 1\nmarks 0\nways 0 1"
QUIET = ((0,), ((0,), (1, 2), (0,)), ((), (0,), (1,)))
ANSWERED = ("always", ("or", ("no", A), ("ever", B)))
PLAIN_LINES = ("undo", "redo", "verdict", "row", "choices", "machine", "wish", "keeps", "idle", "fails")
BAD = "bad line"


def desk_of(machine, wish):
    """A desk over a machine and a wish."""
    return Desk(machine_text(machine), wish_text(wish))


class TestDesk(Case):
    def said(self, desk, *pairs):
        """Lines with their answers."""
        for line, answer in pairs:
            self.assertEqual(desk.say(line), answer, line)

    def test_a_watch_is_led(self):
        desk = Desk(LAMP_TEXT, "ever mark 0")
        self.said(
            desk, ("row", "none"), ("choices", "0"), ("verdict", "open"), ("undo", "nothing"), ("redo", "nothing"),
            ("step 0", "open"), ("row", "0"), ("choices", "0 1"), ("step 0", "open"), ("step 1", "kept"),
            ("row", "0 0 1"), ("verdict", "kept"), ("undo", "done"), ("verdict", "open"), ("row", "0 0"),
            ("redo", "done"), ("redo", "nothing"), ("row", "0 0 1"), ("undo", "done"), ("undo", "done"),
            ("step 1", "kept"), ("redo", "nothing"), ("row", "0 1"), ("undo", "done"), ("undo", "done"),
            ("undo", "nothing"), ("row", "none"), ("redo", "done"), ("row", "0"),
        )
        self.said(Desk(LAMP_TEXT, "no ever mark 0"), ("step 0", "open"), ("step 1", "broken"), ("verdict", "broken"))

    def test_machine_and_wish(self):
        desk = Desk(LAMP_TEXT, "till mark 0 no mark 1")
        self.said(
            desk, ("machine", "starts 0 / marks / ways 0 1 / marks 0 / ways 0 1"), ("wish", "till mark 0 no mark 1"),
        )
        self.said(desk_of(ALONE, TRUE), ("machine", "starts 0 / marks 0 1 2 3 / ways 0"), ("wish", "true"))
        self.said(desk_of(EIGHT, A), ("choices", "0 7"))

    def test_keeps(self):
        self.said(desk_of(ALONE, A), ("keeps", "yes"), ("fails", "none"))
        self.said(desk_of(LAMP, A), ("keeps", "no"))
        self.said(desk_of(QUIET, ANSWERED), ("keeps", "yes"))

    def test_idle(self):
        self.said(desk_of(QUIET, ANSWERED), ("idle", ".1.2 .1.2.1"))
        self.said(desk_of(ALONE, ("or", A, B)), ("idle", ".1 .2"))
        self.said(desk_of(ALONE, A), ("idle", "none"))
        self.said(desk_of(LAMP, ("ever", A)), ("idle", "none"))
        self.said(desk_of(ALONE, ("or", ("and", A, B), ("no", B))), ("idle", ".2 .2.1"))
        self.said(desk_of(ALONE, nested("next", 5, A)), ("idle", "none"))

    def test_fails(self):
        self.said(desk_of(LAMP, ("ever", A)), ("fails", "1"))
        self.said(desk_of(LASSO, A), ("fails", "3"))
        self.said(desk_of(EIGHT, FALSE), ("fails", "8"))
        self.said(desk_of(EIGHT, TRUE), ("fails", "none"))
        # More standings than one figure tells: one goes round seven, and once on.
        ring = ((0,), ((1,), (2,), (3,), (4,), (5,), (6,), (0, 7), (7,)), ((0,),) + ((),) * 6 + ((1,),))
        wish = ("or", ("till", ("or", A, ("no", B)), B), ("always", ("ever", A)))
        self.said(desk_of(ring, ("no", ("and", ("ever", B), ("next", ("ever", A))))), ("fails", "15"))
        self.said(desk_of(ring, wish), ("keeps", "yes"))

    def test_shortest(self):
        desk = desk_of(LAMP, ("ever", A))
        self.said(desk, ("shortest kept", "row 0 1"), ("shortest broken", "none"), ("shortest open", "row"))
        self.said(desk_of(OPEN, A), ("shortest kept", "row 1"), ("shortest broken", "row 0"), ("shortest open", "row"))
        self.said(desk_of(ALONE, A), ("shortest kept", "row"), ("shortest open", "none"))
        # Whatever was done.
        self.said(desk, ("step 0", "open"), ("step 1", "kept"), ("shortest kept", "row 0 1"), ("shortest open", "row"))

    def test_bad_lines(self):
        desk = desk_of(LAMP, ("ever", A))
        self.said(desk, ("step 0", "open"), ("step 0", "open"), ("step 1", "kept"), ("undo", "done"))
        lines = [
            "", " ", "\n", "step", "step ", "step 2", "step 9", "step 00", "step 01", "step 10", "step -1", "step +1",
            "step x", "step 0 1", "step 0 ", "step  0", " step 0", "step 0\n", "step 0\nstep 1", "steps 0", "Step 0",
            "step0", "step none", "step ()", "undo ", " undo", "undo 1", "undo undo", "undo\n", "Undo", "und", "redo 0",
            "redo ", "verdict 0", "verdict ", "row ", "row 0", "rows", "choices 1", "choice", "machine 0", "machines",
            "wish true", "wishes", "keeps 1", "keep", "idle .1", "idles", "fails 1", "fail", "shortest", "shortest ",
            "shortest told", "shortest row", "shortest Kept", "shortest kept open", "shortest  kept", "shortest kept ",
            "shortest 0", "shortest\nkept", "bad line", "none", "done", "0", "1", ".", "true", "say row", "trial",
            "copy", "row\n", "step\t0", "help", "x" * 20000, "step " * 4000, "undo" * 5000,
        ]
        for line in lines + list(ODD + TRUTHS) + [0, 1, (), ("undo",), ["undo"], b"undo", {"undo"}, ("step", "0")]:
            self.assertEqual(desk.say(line), BAD, repr(line.__class__))
            self.assertEqual(desk.watch.row, (0, 0))
        # What can be taken back and done again is the same, too.
        self.said(desk, ("redo", "done"), ("redo", "nothing"), ("row", "0 0 1"))

    def test_more_than_two_hundred_steps(self):
        desk = desk_of(LAMP, ("ever", A))
        for _ in range(200):
            self.assertEqual(desk.say("step 0"), "open")
        self.said(desk, ("step 0", BAD), ("step 1", BAD), ("row", " ".join(["0"] * 200)), ("redo", "nothing"))
        self.said(desk, ("undo", "done"), ("step 1", "kept"), ("step 1", BAD), ("verdict", "kept"))
        self.assertEqual(desk.watch.row, (0,) * 199 + (1,))

    def test_the_watch_led_by_itself(self):
        desk = desk_of(LAMP, ("ever", A))
        watch = desk.watch
        self.assertIs(watch.__class__, Watch)
        self.assertIs(desk.watch, watch)
        self.assertEqual((watch.model, watch.asked, watch.row), (LAMP, ("ever", A), ()))
        watch.step(0)
        self.said(desk, ("row", "0"), ("step 1", "kept"))
        self.assertEqual(watch.row, (0, 1))
        watch.undo()
        self.said(desk, ("row", "0"), ("redo", "done"), ("row", "0 1"))
        with watch.trial():
            self.said(desk, ("undo", "done"), ("step 0", "open"), ("row", "0 0"), ("redo", "nothing"))
        self.said(desk, ("row", "0 1"), ("redo", "nothing"), ("undo", "done"))
        watch.copy().step(0)
        self.said(desk, ("row", "0"), ("redo", "done"))
        with self.assertRaises(AttributeError):
            desk.watch = watch

    def test_against_the_calls(self):
        chance = random.Random(331)
        for machine, wish in lively(332, 12, keeps) + list(zip(some_machines(333, 12), some_wishes(334, 12))):
            desk = desk_of(machine, wish)
            run = shortest_failing(machine, wish)
            paths = idle_parts(machine, wish)
            self.said(
                desk, ("machine", machine_text(machine).replace("\n", " / ")), ("wish", wish_text(wish)),
                ("keeps", "yes" if keeps(machine, wish) else "no"),
                ("fails", "none" if run is None else str(len(run[0] + run[1]))),
                ("idle", " ".join("".join(f".{place}" for place in path) for path in paths) or "none"),
            )
            for word in ("kept", "broken", "open"):
                row = shortest_row(machine, wish, word)
                answer = "none" if row is None else " ".join(["row", *map(str, row)])
                self.assertEqual(desk.say("shortest " + word), answer)
            row = []
            for _ in range(12):
                choices = machine[1][row[-1]] if row else machine[0]
                self.assertEqual(desk.say("choices"), " ".join(map(str, choices)))
                row.append(chance.choice(choices))
                self.assertEqual(desk.say(f"step {row[-1]}"), verdict(machine, wish, row))
                self.said(desk, ("row", " ".join(map(str, row))), ("verdict", verdict(machine, wish, row)))

    def test_said_again(self):
        desk = desk_of(LASSO, ("till", ("no", B), A))
        desk.say("step 0")
        for line in PLAIN_LINES[2:] + ("shortest kept", "shortest open", "shortest broken", "step 7", "no line"):
            self.assertEqual(desk.say(line), desk.say(line), line)
        self.assertEqual(desk.watch.row, (0,))
        for line in PLAIN_LINES:
            answer = desk.say(line=line)
            self.assertIs(answer.__class__, str)
            self.assertNotEqual(answer, BAD)

    def test_two_desks(self):
        first, second = desk_of(LAMP, A), desk_of(LAMP, A)
        first.say("step 0")
        self.said(second, ("row", "none"))
        self.assertNotEqual(first, second)
        for deed in (lambda: first + second, lambda: first < second, lambda: len(first), lambda: first[0]):
            with self.assertRaises(TypeError):
                deed()


class TestMade(Case):
    def test_the_interface(self):
        self.assertEqual(Desk.__module__, "idlewishes.desk")
        self.assertEqual(tuple(inspect.signature(Desk).parameters), ("text", "wish"))
        self.assertEqual(tuple(inspect.signature(Desk.say).parameters)[1:], ("line",))
        self.assertIsInstance(vars(Desk)["watch"], property)
        desk = Desk(wish="mark 0", text=LAMP_TEXT)
        self.assertEqual(desk.watch, Watch(LAMP, A))

    def test_refused_texts(self):
        for value in tuple(value for value in ODD + TRUTHS if not isinstance(value, str)) + (0, (), LAMP):
            self.refuses_text(None, None, Desk, value, None)
            self.refuses_text(None, None, Desk, LAMP_TEXT, value)
        self.refuses_text(1, 0, Desk, "starts 0", None)
        self.refuses_text(5, 0, Desk, LAMP_TEXT + "\n", "true")
        self.refuses(BadMachine, (0,), Desk, "starts 1\nmarks\nways 0", "x")
        self.refuses(BadMachine, (0,), Desk, "starts\nmarks\nways 0", None)
        self.refuses_text(0, 1, Desk, LAMP_TEXT, "mark")
        self.refuses(BadWish, (), Desk, LAMP_TEXT, "mark 4")
        self.refuses(BadWish, (), Desk, LAMP_TEXT, "next " * 6 + "true")


if __name__ == "__main__":
    unittest.main()
