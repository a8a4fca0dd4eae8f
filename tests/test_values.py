"""What wishes are worth on runs (point 13)."""

import random
import unittest

from idlewishes.errors import BadNumber
from idlewishes.values import fingerprints, keeps_run, worth_at, worths
from idlewishes.wishes import part_at, paths
from tests.samples import (
    A, ALONE, B, EIGHT, FALSE, GREAT, LASSO, MACHINES, ODD, OPEN, TRUE, TRUTHS, Case,
    plain_runs, plain_worths, small_wishes, some_machines, some_run, some_wishes,
)

T, F = True, False

# In OPEN the standing 0 has no mark, 1 has the mark 0, 2 has the mark 1.
BEHIND = ((0, 1), (2, 0))
ROUND = ((), (1, 2, 0))


class TestWorthsByHand(Case):
    def are(self, run, wish, *told):
        """Worths on a run of OPEN, and all that is told by them."""
        self.assertEqual(self.same_again(worths, OPEN, wish, run), told)
        self.assertTrue(all(so is True or so is False for so in worths(OPEN, wish, run)))
        self.assertIs(self.same_again(keeps_run, OPEN, wish, run), told[0])
        for moment, so in enumerate(told):
            self.assertIs(worth_at(OPEN, wish, run, moment), so)

    def test_behind_ahead(self):
        # The marks: none, 0; 1, none; 1, none ..
        self.are(BEHIND, TRUE, T, T, T, T)
        self.are(BEHIND, FALSE, F, F, F, F)
        self.are(BEHIND, A, F, T, F, F)
        self.are(BEHIND, B, F, F, T, F)
        self.are(BEHIND, ("mark", 2), F, F, F, F)
        self.are(BEHIND, ("no", A), T, F, T, T)
        self.are(BEHIND, ("and", ("no", A), ("no", B)), T, F, F, T)
        self.are(BEHIND, ("and", A, TRUE), F, T, F, F)
        self.are(BEHIND, ("or", A, B), F, T, T, F)
        self.are(BEHIND, ("or", FALSE, B), F, F, T, F)
        self.are(BEHIND, ("next", A), T, F, F, F)
        self.are(BEHIND, ("next", B), F, T, F, T)
        self.are(BEHIND, ("till", A, B), F, T, T, F)
        self.are(BEHIND, ("till", ("no", B), B), T, T, T, T)
        self.are(BEHIND, ("till", ("no", A), A), T, T, F, F)
        self.are(BEHIND, ("till", ("no", A), B), F, F, T, T)
        self.are(BEHIND, ("till", FALSE, A), F, T, F, F)
        self.are(BEHIND, ("till", TRUE, A), T, T, F, F)
        self.are(BEHIND, ("till", TRUE, FALSE), F, F, F, F)
        self.are(BEHIND, ("ever", A), T, T, F, F)
        self.are(BEHIND, ("ever", B), T, T, T, T)
        self.are(BEHIND, ("always", ("no", A)), F, F, T, T)
        self.are(BEHIND, ("always", ("no", B)), F, F, F, F)
        self.are(BEHIND, ("always", ("ever", B)), T, T, T, T)
        self.are(BEHIND, ("ever", ("always", B)), F, F, F, F)

    def test_ahead_empty(self):
        # The marks: 0, 1, none; 0, 1, none ..
        self.are(ROUND, TRUE, T, T, T)
        self.are(ROUND, FALSE, F, F, F)
        self.are(ROUND, A, T, F, F)
        self.are(ROUND, ("no", A), F, T, T)
        self.are(ROUND, ("and", A, B), F, F, F)
        self.are(ROUND, ("and", ("no", A), ("no", B)), F, F, T)
        self.are(ROUND, ("or", A, B), T, T, F)
        self.are(ROUND, ("next", A), F, F, T)
        self.are(ROUND, ("next", B), T, F, F)
        self.are(ROUND, ("next", ("next", A)), F, T, F)
        self.are(ROUND, ("till", A, B), T, T, F)
        self.are(ROUND, ("till", ("no", A), A), T, T, T)
        self.are(ROUND, ("till", ("no", B), A), T, F, T)
        self.are(ROUND, ("till", B, A), T, F, F)
        self.are(ROUND, ("ever", A), T, T, T)
        self.are(ROUND, ("ever", ("and", A, B)), F, F, F)
        self.are(ROUND, ("always", ("or", A, ("no", A))), T, T, T)
        self.are(ROUND, ("always", A), F, F, F)
        self.are(ROUND, ("always", ("ever", B)), T, T, T)

    def test_ring_of_one(self):
        self.are(((), (1,)), ("always", A), T)
        self.are(((), (1,)), ("next", A), T)
        self.are(((), (1,)), ("till", A, B), F)
        self.are(((2, 2), (1,)), ("always", A), F, F, T)
        self.are(((2, 2), (1,)), ("till", B, A), T, T, T)
        self.are(((2, 2), (1,)), ("till", B, ("always", A)), T, T, T)
        self.are(((2, 0), (1,)), ("till", B, A), F, F, T)
        self.are(((2, 2), (1,)), ("ever", ("always", A)), T, T, T)
        self.are(((2, 2), (1,)), ("next", ("next", A)), T, T, T)

    def test_whole_ring_is_looked_at(self):
        # What the last standing of RING waits for stands at its begin, and ahead of its end.
        self.are(((0,), (2, 0, 0, 1)), ("ever", B), T, T, T, T, T)
        self.are(((0,), (2, 0, 0, 1)), ("till", ("no", A), B), T, T, F, F, F)
        self.are(((0,), (0, 2, 0, 0)), ("till", ("no", A), B), T, T, T, T, T)
        self.are(((2,), (0, 0)), ("ever", B), T, F, F)
        # Nothing comes back to AHEAD.
        self.are(((1,), (0, 0)), ("next", A), F, F, F)
        self.are(((2, 1), (0, 0)), ("ever", A), T, T, F, F)


class TestWorthsPlainly(Case):
    def test_small_wishes_on_short_runs(self):
        runs = list(plain_runs(OPEN, 3))[::7]
        for wish in small_wishes(1) + small_wishes(2) + small_wishes(3) + small_wishes(4)[::9]:
            for run in runs:
                self.assertEqual(worths(OPEN, wish, run), plain_worths(OPEN, wish, run), (wish, run))

    def test_great_wishes(self):
        chance = random.Random(10)
        for wish in some_wishes(11, 400):
            machine = chance.choice(MACHINES)
            run = some_run(chance, machine, 6)
            self.assertEqual(worths(machine, wish, run), plain_worths(machine, wish, run), (wish, run))

    def test_other_machines(self):
        chance = random.Random(12)
        wishes = some_wishes(13, 300)
        for machine, wish in zip(some_machines(14, 300), wishes):
            run = some_run(chance, machine, 5)
            self.assertEqual(worths(machine, wish, run), plain_worths(machine, wish, run), (machine, wish, run))

    def test_longest_runs(self):
        row = (0,) + (1, 2) * 999
        wish = ("and", ("till", ("no", B), B), ("always", ("ever", ("and", A, B))))
        told = worths(LASSO, wish, (row[:1], row[1:]))
        self.assertEqual(len(told), 1999)
        self.assertEqual(told, (T,) * 1999)
        far = ("till", ("no", B), B)
        self.assertEqual(worths(OPEN, far, ((0,) * 1999, (2,))), (T,) * 2000)
        self.assertEqual(worths(OPEN, far, ((), (2,) + (0,) * 1999)), (T,) * 2000)
        self.assertEqual(worths(OPEN, far, ((2,), (0,) * 1999)), (T,) + (F,) * 1999)
        self.assertEqual(worths(OPEN, ("next", B), ((), (2,) + (0,) * 1999)), (F,) * 1999 + (T,))


class TestWorthAt(Case):
    def test_behind_ahead_and_far(self):
        wish = ("next", B)
        # F T at 0 and 1, then F T in turn: even moments F, odd ones T.
        self.assertIs(worth_at(OPEN, wish, BEHIND, 0), F)
        self.assertIs(worth_at(OPEN, wish, BEHIND, 1), T)
        self.assertIs(worth_at(OPEN, wish, BEHIND, 4), F)
        self.assertIs(worth_at(OPEN, wish, BEHIND, 5), T)
        self.assertIs(worth_at(OPEN, wish, BEHIND, 10 ** 30), F)
        self.assertIs(worth_at(OPEN, wish, BEHIND, 10 ** 30 - 1), T)

    def test_far_in_a_ring_of_three(self):
        # 10 ** 30 leaves 1 when it is divided by 3.
        told = [worth_at(OPEN, B, ROUND, 10 ** 30 - back) for back in (0, 1, 2)]
        self.assertEqual(told, [T, F, F])
        told = [worth_at(OPEN, A, ((0, 0), (1, 2, 0)), 10 ** 30 - back) for back in (0, 1, 2)]
        self.assertEqual(told, [F, F, T])

    def test_moment_by_moment(self):
        for run in (BEHIND, ROUND, ((1,), (2,)), ((0, 1, 2), (1, 0, 0, 2))):
            for wish in (A, ("next", A), ("till", A, B), ("ever", A), ("always", ("no", A))):
                told = worths(OPEN, wish, run)
                for moment in range(20):
                    at = moment
                    while at >= len(told):
                        at -= len(run[1])
                    self.assertIs(self.same_again(worth_at, OPEN, wish, run, moment), told[at])

    def test_what_was_is_not_so_again(self):
        # The wish is so in AHEAD alone.
        self.assertIs(worth_at(OPEN, A, ((1,), (0,)), 0), T)
        for moment in (1, 2, 3, 10 ** 30):
            self.assertIs(worth_at(OPEN, A, ((1,), (0,)), moment), F)

    def test_no_moment(self):
        for moment in ODD + TRUTHS + (-1, 10 ** 30 + 1, -10 ** 30, GREAT, -GREAT, (), (0,)):
            self.refuses_itself(BadNumber, moment, worth_at, OPEN, A, BEHIND, moment)


class TestFingerprints(Case):
    def test_by_hand(self):
        wish = ("always", ("or", ("no", A), ("till", A, B)))
        self.assertEqual(
            self.same_again(fingerprints, OPEN, wish, BEHIND),
            (((), T), ((1,), T), ((1, 1), T), ((1, 1, 1), F), ((1, 2), F), ((1, 2, 1), F), ((1, 2, 2), F)),
        )
        self.assertEqual(
            fingerprints(OPEN, wish, ROUND),
            (((), T), ((1,), T), ((1, 1), F), ((1, 1, 1), T), ((1, 2), T), ((1, 2, 1), T), ((1, 2, 2), F)),
        )
        self.assertEqual(fingerprints(ALONE, A, ((), (0,))), (((), T),))
        self.assertEqual(fingerprints(EIGHT, ("and", A, B), ((), EIGHT[0][:1] + tuple(range(1, 8)))),
                         (((), F), ((1,), F), ((2,), F)))

    def test_each_part_by_itself(self):
        chance = random.Random(15)
        for wish in some_wishes(16, 150):
            run = some_run(chance, LASSO, 5)
            told = fingerprints(LASSO, wish, run)
            self.assertIs(told.__class__, tuple)
            self.assertEqual(
                told, tuple((path, keeps_run(LASSO, part_at(wish, path), run)) for path in paths(wish)),
            )


if __name__ == "__main__":
    unittest.main()
