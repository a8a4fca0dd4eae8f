"""Wishes told back from runs (point 63)."""

import random
import unittest

from idlewishes.errors import BadLog, BadMachine, BadMenu
from idlewishes.logs import first_false, fitting_wishes
from idlewishes.values import keeps_run
from tests.plain import plain_walk
from tests.samples import (
    A, AGREEING, ALONE, B, EIGHT, FALSE, GRUDGING, LASSO, ODD, OPEN, TRUE, TRUTHS, Case, nested, plain_runs,
    plain_worths, small_wishes, some_machines, some_run, some_wishes,
)

LAMP = ((0,), ((0, 1), (0, 1)), ((), (0,)))
DARK = ((), (0,))
LIT = ((0,), (1,))
BLINKS = ((), (0, 1))
MENU = (("ever", A), ("always", ("ever", A)), ("ever", ("always", A)), ("next", A), TRUE, FALSE)


def plain_fitting(machine, menu, log):
    """The numbers of those that fit, read off point 63."""
    return tuple(
        number for number, wish in enumerate(menu)
        if all(plain_worths(machine, wish, run)[0] is told for run, told in log)
    )


class TestFitting(Case):
    def test_by_hand(self):
        for log, told in (
            ((), (0, 1, 2, 3, 4, 5)), (((LIT, True),), (0, 1, 2, 3, 4)), (((LIT, False),), (5,)),
            (((DARK, False),), (0, 1, 2, 3, 5)), (((DARK, True),), (4,)),
            (((DARK, False), (LIT, True)), (0, 1, 2, 3)), (((LIT, True), (DARK, False), (BLINKS, False)), (2,)),
            (((LIT, True), (DARK, False), (((0, 1), (0,)), True)), (0, 3)),
            (((LIT, True), (DARK, False), (((0, 0, 1), (0,)), True)), (0,)),
            (((LIT, True), (LIT, False)), ()), (((LIT, True), (LIT, True)), (0, 1, 2, 3, 4)),
        ):
            self.assertEqual(self.same_again(fitting_wishes, LAMP, MENU, log), told, log)
            self.assertEqual(self.same_again(fitting_wishes, LAMP, MENU, list(log)), told, log)

    def test_first_false_by_hand(self):
        for log, told in (
            ((), None), (((LIT, True),), None), (((LIT, True), (DARK, False)), None),
            (((LIT, True), (LIT, False)), 1), (((LIT, False), (DARK, True)), 1), (((DARK, True), (LIT, False)), 1),
            (((DARK, True), (LIT, True), (BLINKS, True), (BLINKS, False)), 3),
            # What comes behind the first one does not matter.
            (((LIT, True), (LIT, False), (LIT, True)), 1),
            (((LIT, True), (DARK, False), (BLINKS, True), (((0, 1), (0,)), True), (((0, 1), (0,)), False)), 4),
        ):
            self.assertEqual(self.same_again(first_false, LAMP, MENU, log), told, log)
            self.assertEqual(self.same_again(first_false, LAMP, MENU, list(log)), told, log)
        self.assertEqual(first_false(LAMP, (FALSE,), ((LIT, True), (DARK, True))), 0)
        self.assertEqual(first_false(LAMP, (A, B), ((LIT, False), (DARK, True))), 1)

    def test_menus_of_one_and_eight(self):
        self.assertEqual(fitting_wishes(LAMP, (A,), ((LIT, False),)), (0,))
        self.assertEqual(fitting_wishes(LAMP, (A,), ((LIT, True),)), ())
        menu = MENU + (("no", A), ("ever", A))
        self.assertEqual(fitting_wishes(LAMP, menu, ((LIT, True),)), (0, 1, 2, 3, 4, 6, 7))
        self.assertEqual(fitting_wishes(LAMP, (A,) * 8, ()), (0, 1, 2, 3, 4, 5, 6, 7))

    def test_twenty_pairs(self):
        log = ((LIT, True),) * 19 + ((DARK, False),)
        self.assertEqual(self.same_again(fitting_wishes, LAMP, MENU, log), (0, 1, 2, 3))
        self.assertIsNone(first_false(LAMP, MENU, log))
        self.assertEqual(first_false(LAMP, MENU, log[:19] + ((LIT, False),)), 19)
        for call in (fitting_wishes, first_false):
            for many in (log + log[:1], list(log) + [None], (None,) * 21):
                self.refuses(BadLog, None, call, LAMP, MENU, many)

    def test_against_the_words(self):
        chance = random.Random(301)
        pool = small_wishes(2) + small_wishes(3)
        found = {}
        for machine in [OPEN, LASSO, EIGHT, LAMP] * 10 + some_machines(302, 20):
            menu = tuple(chance.choice(pool) for _ in range(chance.randrange(1, 9)))
            truth = chance.choice(menu)
            log = []
            for _ in range(chance.randrange(0, 12)):
                run = some_run(chance, machine, 5)
                log.append((run, keeps_run(machine, truth, run) if chance.random() < 0.95 else chance.random() < 0.5))
            told = self.same_again(fitting_wishes, machine, menu, log)
            self.assertEqual(told, plain_fitting(machine, menu, log))
            self.assertEqual(fitting_wishes(machine, menu, tuple(log)), told)
            first = next((at for at in range(len(log)) if not plain_fitting(machine, menu, log[:at + 1])), None)
            self.assertEqual(self.same_again(first_false, machine, menu, log), first)
            self.assertEqual(first is None, told != () or log == [])
            found[first is None] = found.get(first is None, 0) + 1
        self.assertGreater(min(found[True], found[False]), 5)

    def test_told_of_one_wish(self):
        for wish in some_wishes(303, 20):
            log = [(run, plain_worths(LASSO, wish, run)[0]) for run in plain_runs(LASSO, 4)][:20]
            menu = (wish,)
            if len(list(plain_walk(wish))) < 12:
                menu = (wish, ("no", wish))
            self.assertEqual(fitting_wishes(LASSO, menu, log), (0,))
            self.assertIsNone(first_false(LASSO, (wish,), log))


class TestRefused(Case):
    def refused(self, error, field, machine, menu, log):
        """Both calls refuse it."""
        self.refuses(error, field, fitting_wishes, machine, menu, log)
        self.refuses(error, field, first_false, machine, menu, log)

    def test_menus(self):
        for value in ODD + TRUTHS + (0, (), (A,) * 9, (None,) * 9, [A], {A: 1}, "mark"):
            self.refused(BadMenu, None, LAMP, value, ())
        for value in ODD + TRUTHS + (0, (), ("mark", 4), ["mark", 0], nested("no", 12), nested("next", 6)):
            self.refused(BadMenu, 0, LAMP, (value,), ())
            self.refused(BadMenu, 2, LAMP, (A, B, value, None), ())
            self.refused(BadMenu, 1, LAMP, (A, ("no", value), value), ())
            self.refused(BadMenu, 7, LAMP, (A,) * 7 + (value,), ())
        # A single wish is a tuple of a word and something.
        self.refused(BadMenu, 0, LAMP, A, ())

    def test_logs(self):
        for value in ODD + TRUTHS + (0, "log", {0: LIT}):
            if not isinstance(value, list):
                self.refused(BadLog, None, LAMP, MENU, value)
        for value in ODD + TRUTHS + (
            0, (), (LIT,), (LIT, True, True), [LIT, True], (True, LIT), (LIT, 1), (LIT, 0), (LIT, None), (LIT, "True"),
            (LIT, ()), (LIT, AGREEING), (LIT, GRUDGING), (None, True), (list(LIT), True), (((0,), [1]), True),
            (((0,), ()), True), (((1,), (0,)), True), ((1, 0), True), (((0,), (2,)), True), (((0,), (True,)), False),
            (((False,), (1,)), False), (((0,) * 2000, (1,)), True), (GRUDGING, True), (AGREEING, False), LIT,
        ):
            self.refused(BadLog, 0, LAMP, MENU, (value,))
            self.refused(BadLog, 0, LAMP, MENU, [value, None])
            self.refused(BadLog, 2, LAMP, MENU, ((LIT, True), (LIT, False), value, None))
            self.refused(BadLog, 19, LAMP, MENU, [(LIT, True)] * 19 + [value])

    def test_a_run_of_another_machine(self):
        self.refused(BadLog, 1, LASSO, MENU, ((((0,), (1, 2)), True), (LIT, True)))
        self.refused(BadLog, 0, ALONE, MENU, ((LIT, True),))
        self.assertEqual(fitting_wishes(ALONE, (A, B), ((((), (0,)), True),)), (0, 1))

    def test_as_long_as_runs_can_be(self):
        run = ((0,) * 1999, (1,))
        self.assertEqual(fitting_wishes(LAMP, MENU, ((run, True),)), (0, 1, 2, 4))

    def test_in_order(self):
        self.refused(BadMachine, (), None, None, None)
        self.refused(BadMenu, None, LAMP, None, None)
        self.refused(BadMenu, 1, LAMP, (A, None), None)
        self.refused(BadLog, None, LAMP, (A,), None)


if __name__ == "__main__":
    unittest.main()
