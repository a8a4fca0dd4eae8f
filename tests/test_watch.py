"""A watch: steps, what is taken back and done again, trials (point 64)."""

import copy
import inspect
import itertools
import random
import unittest

from idlewishes.errors import BadMachine, BadRow, BadWish, TooGreat
from idlewishes.keeping import keeps
from idlewishes.monitors import verdict
from idlewishes.watch import Watch, under
from tests.samples import (
    A, AGREEING, ALONE, B, EIGHT, GRUDGING, LASSO, ODD, OPEN, TRUE, TRUTHS, Case, lively, some_machines, some_wishes,
)

LAMP = ((0,), ((0, 1), (0, 1)), ((), (0,)))
WISH = ("ever", A)


class Broken(Exception):
    """An error of the tests' own."""


class PlainWatch:
    """A watch that tells all that was done, and does it anew each time."""

    def __init__(self, machine, wish):
        self.machine, self.wish = machine, wish
        self.row, self.back = [], []

    def choices(self):
        return self.machine[1][self.row[-1]] if self.row else self.machine[0]

    def step(self, standing):
        if type(standing) is not int or standing not in self.choices():
            return "refused", len(self.row)
        if len(self.row) == 200:
            return "too great", 200
        self.row.append(standing)
        self.back.clear()
        return verdict(self.machine, self.wish, self.row)

    def undo(self):
        if self.row:
            self.back.append(self.row.pop())
            return True
        return False

    def redo(self):
        if self.back:
            self.row.append(self.back.pop())
            return True
        return False


def deed_of(watch, deed):
    """What a watch tells of a deed: a standing, or a word."""
    if deed == "undo":
        return watch.undo()
    if deed == "redo":
        return watch.redo()
    try:
        return watch.step(deed)
    except BadRow as wrong:
        return "refused", wrong.number
    except TooGreat as wrong:
        return "too great", wrong.most


class TestWatch(Case):
    def stands(self, watch, machine, wish, row):
        """All that a watch tells at a row."""
        row = tuple(row)
        self.assertEqual(watch.model, machine)
        self.assertEqual(watch.asked, wish)
        self.assertEqual(watch.row, row)
        self.assertIs(watch.row.__class__, tuple)
        self.assertEqual(watch.row, watch.row)
        self.assertEqual(watch.tells(), verdict(machine, wish, row))
        self.assertEqual(watch.tells(), watch.tells())
        choices = machine[1][row[-1]] if row else machine[0]
        self.assertEqual(watch.choices(), choices)
        self.assertIs(watch.choices().__class__, tuple)
        self.assertEqual(len(watch), len(row))
        self.assertEqual(watch.row, row)

    def test_by_hand(self):
        watch = Watch(LAMP, WISH)
        self.stands(watch, LAMP, WISH, ())
        self.assertEqual(watch.tells(), "open")
        self.assertEqual(watch.step(0), "open")
        self.assertEqual(watch.step(0), "open")
        self.assertEqual(watch.step(1), "kept")
        self.stands(watch, LAMP, WISH, (0, 0, 1))
        self.assertIs(watch.undo(), True)
        self.stands(watch, LAMP, WISH, (0, 0))
        self.assertIs(watch.redo(), True)
        self.stands(watch, LAMP, WISH, (0, 0, 1))
        self.assertIs(watch.redo(), False)
        self.assertEqual([watch.undo() for _ in range(5)], [True, True, True, False, False])
        self.stands(watch, LAMP, WISH, ())
        self.assertEqual([watch.redo() for _ in range(5)], [True, True, True, False, False])
        self.stands(watch, LAMP, WISH, (0, 0, 1))

    def test_by_name_and_by_position(self):
        watch = Watch(wish=WISH, machine=LAMP)
        self.stands(watch, LAMP, WISH, ())
        self.assertEqual(watch.step(standing=0), "open")
        self.assertEqual(under(deed=lambda one: one.row, manager=watch.trial()), (0,))
        self.assertEqual(tuple(inspect.signature(Watch).parameters), ("machine", "wish"))
        self.assertEqual(tuple(inspect.signature(under).parameters), ("manager", "deed"))
        self.assertEqual(tuple(inspect.signature(Watch.step).parameters)[1:], ("standing",))

    def test_the_interface(self):
        self.assertEqual(Watch.__module__, "idlewishes.watch")
        self.assertEqual(under.__module__, "idlewishes.watch")
        for name in ("model", "asked", "row"):
            self.assertIsInstance(vars(Watch)[name], property)
            with self.assertRaises(AttributeError):
                setattr(Watch(LAMP, WISH), name, ())
        for name in ("tells", "choices", "step", "undo", "redo", "copy", "trial", "__len__", "__eq__"):
            self.assertTrue(inspect.isfunction(vars(Watch)[name]), name)

    def test_what_is_refused_when_it_is_made(self):
        for value in ODD + TRUTHS + (0, ()):
            self.refuses(BadMachine, (), Watch, value, None)
            self.refuses(BadWish, (), Watch, LAMP, value)
        self.refuses(BadMachine, (2, 1), Watch, ((0,), ((0,), (0,)), ((), (4,))), None)
        self.refuses(BadWish, (1,), Watch, LAMP, ("no", None))

    def test_all_short_rows(self):
        for machine, wish in lively(311, 4, keeps) + [(OPEN, ("always", ("or", ("no", A), ("next", B))))]:
            deeds = [*range(len(machine[2])), "undo", "redo"]
            for row in itertools.product(deeds, repeat=4):
                watch, plain = Watch(machine, wish), PlainWatch(machine, wish)
                for deed in row:
                    self.assertEqual(deed_of(watch, deed), deed_of(plain, deed))
                    self.assertEqual(watch.row, tuple(plain.row))
                self.assertEqual(watch.tells(), verdict(machine, wish, plain.row))
                self.assertEqual(watch.choices(), plain.choices())

    def test_long_rows(self):
        chance = random.Random(313)
        for machine, wish in list(zip(some_machines(314, 12), some_wishes(315, 12))) + lively(316, 6, keeps):
            watch, plain = Watch(machine, wish), PlainWatch(machine, wish)
            for _ in range(120):
                deed = chance.choice([*plain.choices()] * 3 + ["undo", "undo", "redo", "redo", 9, True])
                self.assertEqual(deed_of(watch, deed), deed_of(plain, deed))
                self.stands(watch, machine, wish, plain.row)

    def test_a_step_ends_what_can_be_done_again(self):
        watch = Watch(LAMP, WISH)
        for standing in (0, 1, 0):
            watch.step(standing)
        watch.undo()
        watch.undo()
        # The same step as the one that was taken back is another one.
        watch.step(1)
        self.assertIs(watch.redo(), False)
        self.assertEqual(watch.row, (0, 1))
        watch.undo()
        watch.undo()
        watch.redo()
        watch.step(0)
        self.assertIs(watch.redo(), False)
        self.assertEqual(watch.row, (0, 0))

    def test_asking_ends_nothing(self):
        watch = Watch(LAMP, WISH)
        watch.step(0)
        watch.step(1)
        watch.undo()
        watch.undo()
        watch.tells(), watch.choices(), len(watch), watch == watch.copy(), watch.row, watch.trial()
        self.assertIs(watch.undo(), False)
        self.assertEqual([watch.redo(), watch.redo(), watch.redo()], [True, True, False])

    def test_a_refused_step_changes_nothing(self):
        watch = Watch(LAMP, WISH)
        for standing in (0, 1, 0, 1):
            watch.step(standing)
        watch.undo()
        watch.undo()
        for value in ODD + TRUTHS + (2, -1, 7, 10 ** 40, -(10 ** 40), (0,), [1], "1"):
            self.refuses(BadRow, 2, watch.step, value)
            self.stands(watch, LAMP, WISH, (0, 1))
        self.assertEqual([watch.redo(), watch.redo(), watch.redo()], [True, True, False])
        self.refuses(BadRow, 4, watch.step, 2)
        self.stands(watch, LAMP, WISH, (0, 1, 0, 1))

    def test_choices(self):
        watch = Watch(LASSO, TRUE)
        self.refuses(BadRow, 0, watch.step, 1)
        self.refuses(BadRow, 0, watch.step, 3)
        watch.step(0)
        self.refuses(BadRow, 1, watch.step, 0)
        watch.step(1)
        self.refuses(BadRow, 2, watch.step, 3)
        self.assertEqual(watch.choices(), (2,))
        self.assertEqual(Watch(EIGHT, TRUE).choices(), (0, 7))

    def test_two_hundred_steps(self):
        watch = Watch(LAMP, WISH)
        for _ in range(200):
            self.assertEqual(watch.step(0), "open")
        self.refuses(TooGreat, 200, watch.step, 0)
        self.refuses(TooGreat, 200, watch.step, 1)
        # What is no choice is told ahead of that.
        for value in (2, None, True, GRUDGING, AGREEING):
            self.refuses(BadRow, 200, watch.step, value)
        self.stands(watch, LAMP, WISH, (0,) * 200)
        self.assertIs(watch.redo(), False)
        # What is taken back makes room, and what is done again takes it.
        watch.undo()
        self.assertEqual(watch.step(1), "kept")
        self.refuses(TooGreat, 200, watch.step, 1)
        watch.undo()
        watch.undo()
        self.assertEqual([watch.redo(), watch.redo(), watch.redo()], [True, True, False])
        self.refuses(TooGreat, 200, watch.step, 0)
        self.stands(watch, LAMP, WISH, (0,) * 199 + (1,))

    def test_a_refused_two_hundred_and_first_step_keeps_what_can_be_done_again(self):
        watch = Watch(ALONE, A)
        for _ in range(200):
            watch.step(0)
        other = watch.copy()
        self.refuses(TooGreat, 200, watch.step, 0)
        self.assertEqual([watch.undo(), watch.undo(), watch.redo()], [True, True, True])
        self.assertEqual(len(watch), 199)
        self.assertEqual(watch.step(0), "kept")
        self.assertEqual(watch, other)


class TestCopies(Case):
    def test_they_go_on_by_themselves(self):
        watch = Watch(LAMP, WISH)
        for standing in (0, 1, 0):
            watch.step(standing)
        watch.undo()
        other = watch.copy()
        self.assertIs(other.__class__, Watch)
        self.assertIsNot(other, watch)
        self.assertEqual(other, watch)
        self.assertEqual((other.model, other.asked, other.row), (LAMP, WISH, (0, 1)))
        # What can be taken back and done again, too.
        self.assertEqual([other.redo(), other.redo()], [True, False])
        self.assertEqual(other.row, (0, 1, 0))
        self.assertEqual(watch.row, (0, 1))
        watch.step(1)
        self.assertEqual([other.undo() for _ in range(4)], [True, True, True, False])
        self.assertEqual(watch.row, (0, 1, 1))
        self.assertEqual([other.redo() for _ in range(4)], [True, True, True, False])
        self.assertEqual(other.row, (0, 1, 0))
        self.assertIs(watch.redo(), False)

    def test_the_first_one_goes_on(self):
        watch = Watch(OPEN, WISH)
        watch.step(0)
        watch.step(2)
        watch.undo()
        other = watch.copy()
        watch.step(1)
        watch.step(1)
        self.assertEqual(other.row, (0,))
        self.assertIs(other.redo(), True)
        self.assertEqual(other.row, (0, 2))
        self.assertEqual(other.tells(), "open")
        self.assertEqual(watch.tells(), "kept")

    def test_a_copy_in_a_trial(self):
        watch = Watch(LAMP, WISH)
        watch.step(0)
        with watch.trial() as one:
            one.step(1)
            other = one.copy()
        self.assertEqual(watch.row, (0,))
        self.assertEqual(other.row, (0, 1))
        self.assertEqual([other.undo(), other.undo(), other.undo()], [True, True, False])
        self.assertEqual(watch.row, (0,))


class TestTrials(Case):
    def watch(self):
        """A watch at (0, 1), with 0 and then 1 to be done again."""
        watch = Watch(LAMP, WISH)
        for standing in (0, 1, 0, 1):
            watch.step(standing)
        watch.undo()
        watch.undo()
        return watch

    def is_as_it_was(self, watch):
        """It stands as it was made, with what can be taken back and done again."""
        self.assertEqual(watch.row, (0, 1))
        other = watch.copy()
        self.assertEqual([other.redo(), other.redo(), other.redo()], [True, True, False])
        self.assertEqual(other.row, (0, 1, 0, 1))
        other = watch.copy()
        self.assertEqual([other.undo(), other.undo(), other.undo()], [True, True, False])

    def test_the_block_gets_the_watch(self):
        watch = self.watch()
        with watch.trial() as one:
            self.assertIs(one, watch)
            self.is_as_it_was(watch)
            one.step(1)
            self.assertEqual(watch.row, (0, 1, 1))
            self.assertIs(one.redo(), False)
        self.is_as_it_was(watch)

    def test_undo_and_redo_in_a_block(self):
        watch = self.watch()
        with watch.trial():
            # Beyond where it began, both ways.
            self.assertEqual([watch.undo() for _ in range(3)], [True, True, False])
            self.assertEqual([watch.redo() for _ in range(5)], [True] * 4 + [False])
            self.assertEqual(watch.row, (0, 1, 0, 1))
        self.is_as_it_was(watch)
        with watch.trial():
            watch.undo()
            watch.undo()
            watch.step(0)
            watch.step(0)
            watch.step(0)
        self.is_as_it_was(watch)
        with watch.trial():
            pass
        self.is_as_it_was(watch)

    def test_an_error_passes(self):
        watch = self.watch()
        error = Broken()
        with self.assertRaises(Broken) as caught:
            with watch.trial():
                watch.step(1)
                raise error
        self.assertIs(caught.exception, error)
        self.is_as_it_was(watch)
        with self.assertRaises(BadRow):
            with watch.trial():
                watch.step(0)
                watch.step(5)
        self.is_as_it_was(watch)
        with self.assertRaises(KeyboardInterrupt):
            with watch.trial():
                watch.undo()
                raise KeyboardInterrupt
        self.is_as_it_was(watch)

    def test_left_by_return(self):
        watch = self.watch()

        def deed():
            with watch.trial() as one:
                return one.step(1), one.row

        self.assertEqual(deed(), ("kept", (0, 1, 1)))
        self.is_as_it_was(watch)

    def test_trials_within_trials(self):
        watch = self.watch()
        with watch.trial() as one:
            one.step(0)
            with one.trial() as other:
                self.assertIs(other, watch)
                other.step(1)
                other.step(1)
                with self.assertRaises(Broken):
                    with other.trial():
                        other.undo()
                        raise Broken
                self.assertEqual(watch.row, (0, 1, 0, 1, 1))
            self.assertEqual(watch.row, (0, 1, 0))
            self.assertIs(watch.redo(), False)
            self.assertIs(watch.undo(), True)
        self.is_as_it_was(watch)

    def test_made_ahead_of_its_block(self):
        watch = Watch(LAMP, WISH)
        trial = watch.trial()
        for standing in (0, 1, 0, 1):
            watch.step(standing)
        watch.undo()
        watch.undo()
        with trial as one:
            self.assertIs(one, watch)
            watch.undo()
            watch.undo()
        self.is_as_it_was(watch)

    def test_one_trial_for_several_blocks(self):
        watch = self.watch()
        trial = watch.trial()
        with trial:
            watch.step(1)
        self.is_as_it_was(watch)
        watch.redo()
        with trial:
            watch.undo()
            watch.undo()
        self.assertEqual(watch.row, (0, 1, 0))
        watch.undo()
        self.is_as_it_was(watch)
        # Blocks of the same one, within one another.
        with trial:
            watch.step(0)
            with trial:
                watch.step(1)
                with trial:
                    watch.step(1)
                self.assertEqual(watch.row, (0, 1, 0, 1))
            self.assertEqual(watch.row, (0, 1, 0))
        self.is_as_it_was(watch)

    def test_two_watches(self):
        first, second = self.watch(), self.watch()
        with first.trial(), second.trial():
            first.step(0)
            self.is_as_it_was(second)
            second.undo()
        self.is_as_it_was(first)
        self.is_as_it_was(second)

    def test_what_is_done_behind_a_block(self):
        watch = self.watch()
        with watch.trial():
            watch.step(1)
        self.assertIs(watch.redo(), True)
        watch.step(0)
        self.assertEqual(watch.row, (0, 1, 0, 0))
        self.assertIs(watch.redo(), False)

    def test_two_hundred_steps_in_a_trial(self):
        watch = self.watch()
        with watch.trial():
            for _ in range(198):
                watch.step(0)
            self.refuses(TooGreat, 200, watch.step, 0)
        self.is_as_it_was(watch)
        watch.step(0)

    def test_under(self):
        watch = self.watch()
        told = under(watch.trial(), lambda one: (one.step(0), one.step(0), one.row))
        self.assertEqual(told, ("kept", "kept", (0, 1, 0, 0)))
        self.is_as_it_was(watch)
        self.assertIs(under(watch.trial(), lambda one: one), watch)
        self.assertIsNone(under(watch.trial(), lambda one: None))
        with self.assertRaises(Broken):
            under(watch.trial(), self.breaks)
        self.is_as_it_was(watch)
        told = under(watch.trial(), lambda one: under(one.trial(), lambda other: other.undo()) and one.row)
        self.assertEqual(told, (0, 1))
        self.is_as_it_was(watch)

    def breaks(self, one):
        """A deed that ends by an error."""
        one.undo()
        raise Broken

    def test_under_over_another_manager(self):
        held = []

        class Manager:
            """A manager that gives a list, and lets no error pass."""

            def __enter__(self):
                held.append("begins")
                return held

            def __exit__(self, kind, value, trace):
                held.append(kind)
                return True

        self.assertEqual(under(Manager(), len), 1)
        self.assertIsNone(under(Manager(), self.breaks))
        self.assertEqual(held, ["begins", None, "begins", AttributeError])


class TestEqual(Case):
    def test_equal_and_not(self):
        watch, other = Watch(LAMP, WISH), Watch(copy.deepcopy(LAMP), copy.deepcopy(WISH))
        self.assertIs(watch == other, True)
        self.assertIs(watch != other, False)
        watch.step(0)
        self.assertIs(watch == other, False)
        self.assertIs(watch != other, True)
        other.step(0)
        self.assertIs(watch == other, True)
        other.step(1)
        other.undo()
        # What was taken back is not looked at.
        self.assertIs(watch == other, True)
        self.assertIs(watch == watch, True)
        watch.step(1)
        other.step(0)
        self.assertIs(watch == other, False)

    def test_unlike_machines_and_wishes(self):
        self.assertIs(Watch(LAMP, WISH) == Watch(OPEN, WISH), False)
        self.assertIs(Watch(LAMP, WISH) == Watch(LAMP, ("ever", B)), False)
        self.assertIs(Watch(LAMP, ("no", ("no", A))) == Watch(LAMP, A), False)
        self.assertIs(Watch(LAMP, TRUE) != Watch(ALONE, TRUE), True)
        # The same states, but other rows.
        both = ((0, 1), ((0, 1), (0, 1)), ((), ()))
        first, second = Watch(both, TRUE), Watch(both, TRUE)
        for one, other in ((0, 1), (0, 0)):
            first.step(one)
            second.step(other)
        self.assertIs(first == second, False)

    def test_other_things(self):
        watch = Watch(LAMP, WISH)
        for value in ODD + TRUTHS + (0, (), (0,), LAMP, WISH, watch.row, watch.trial()):
            if value is not AGREEING and value is not GRUDGING:
                self.assertIs(watch == value, False)
                self.assertIs(watch != value, True)
                self.assertIs(value == watch, False)
        self.assertIs(watch == GRUDGING, False)
        self.assertIs(watch == AGREEING, False)
        self.assertIs(watch != AGREEING, True)

    def test_no_other_operators(self):
        watch, other = Watch(LAMP, WISH), Watch(LAMP, WISH)
        for value in (other, 1, "a", (), None, [0]):
            for deed in (
                lambda: watch + value, lambda: watch < value, lambda: watch >= value, lambda: watch | value,
                lambda: value - watch, lambda: watch * value, lambda: value in watch, lambda: watch[value],
            ):
                with self.assertRaises(TypeError):
                    deed()
        for deed in (lambda: -watch, lambda: iter(watch), lambda: abs(watch), lambda: {watch: 1}):
            with self.assertRaises(TypeError):
                deed()


if __name__ == "__main__":
    unittest.main()
