"""Idle parts, and parts that rest the blame (points 14, 17 and 18)."""

import random
import unittest

from idlewishes.errors import BadPaper, BadPath
from idlewishes.idle import (
    blamed_parts, check_idle, highest_idle, idle_paper, idle_parts, interesting_run, is_idle, passes_idly,
    rests_on, softened,
)
from idlewishes.keeping import check_keep, keep_paper, keeps
from idlewishes.wishes import paths
from tests.plain import TIMED, plain_hardened, plain_is_plain, plain_put, plain_table_holds, plain_walk
from tests.samples import (
    A, AGREEING, ALONE, B, FALSE, GRUDGING, LASSO, ODD, TRUE, TRUTHS, Case, plain_is_run, plain_worths,
    small_wishes, some_machines, some_wishes,
)

C = ("mark", 2)

# 0 nobody asks, 1 a request (mark 0), 2 the answer (mark 1); in QUIET no request comes.
HOUSE = ((0,), ((0, 1), (1, 2), (0,)), ((), (0,), (1,)))
QUICK = ((0,), ((0, 1), (2,), (0, 1)), ((), (0,), (1,)))
QUIET = ((0,), ((0,), (1, 2), (0,)), ((), (0,), (1,)))
LAMP = ((0,), ((0, 1), (0, 1)), ((), (0,)))
ANSWERED = ("always", ("or", ("no", A), ("ever", B)))

SAMPLES = (
    (HOUSE, ANSWERED), (QUICK, ANSWERED), (QUIET, ANSWERED), (LAMP, ("ever", A)), (LAMP, TRUE), (LAMP, FALSE),
    (ALONE, ("or", A, B)), (ALONE, ("and", A, B)), (ALONE, ("no", ("and", ("no", A), ("no", B)))),
    (LAMP, ("or", ("always", ("ever", A)), ("ever", ("always", ("no", A))))),
    (LASSO, ("no", ("till", ("no", A), ("mark", 3)))),
)


def small_samples():
    """The samples by hand, and many more."""
    return SAMPLES + tuple(zip(some_machines(51, 80, 4), some_wishes(52, 80)))


def is_small(wish):
    """Whether a tuple that has the form of a wish has not too many parts."""
    words = [part[0] for _, part in plain_walk(wish)]
    return len(words) <= 12 and len([word for word in words if word in TIMED]) <= 5


class TestIdleByHand(Case):
    def test_hollow_yes(self):
        # No request comes: whatever stands in the place of the answer.
        self.assertEqual(self.same_again(idle_parts, QUIET, ANSWERED), ((1, 2), (1, 2, 1)))
        self.assertEqual(self.same_again(highest_idle, QUIET, ANSWERED), ((1, 2),))
        self.assertIs(self.same_again(passes_idly, QUIET, ANSWERED), True)

    def test_all_matters(self):
        # No way comes back from 0 without the answer; but the wait may have no end.
        self.assertEqual(idle_parts(HOUSE, ANSWERED), ())
        self.assertIs(passes_idly(HOUSE, ANSWERED), False)
        self.assertEqual(highest_idle(HOUSE, ANSWERED), ())
        self.assertEqual(self.same_again(idle_parts, QUICK, ANSWERED), ())
        self.assertIs(self.same_again(passes_idly, QUICK, ANSWERED), False)
        self.assertEqual(self.same_again(highest_idle, QUICK, ANSWERED), ())

    def test_one_of_two(self):
        self.assertEqual(idle_parts(ALONE, ("or", A, B)), ((1,), (2,)))
        self.assertEqual(idle_parts(ALONE, ("or", A, ("no", B))), ((2,), (2, 1)))
        self.assertEqual(highest_idle(ALONE, ("or", A, ("no", B))), ((2,),))
        self.assertEqual(idle_parts(ALONE, ("and", A, B)), ())
        self.assertEqual(idle_parts(ALONE, ("and", A, ("or", B, ("ever", C)))), ((2, 1), (2, 2), (2, 2, 1)))
        self.assertEqual(highest_idle(ALONE, ("and", A, ("or", B, ("ever", C)))), ((2, 1), (2, 2)))

    def test_the_whole_is_never_idle(self):
        self.assertIs(is_idle(LAMP, TRUE, ()), False)
        self.assertEqual(idle_parts(LAMP, TRUE), ())
        self.assertEqual(idle_parts(LAMP, FALSE), ())
        self.assertIs(passes_idly(LAMP, TRUE), False)

    def test_under_no(self):
        # What is under "no" is worst if it is so.
        wish = ("no", ("and", ("no", A), ("no", B)))
        self.assertEqual(idle_parts(ALONE, wish), ((1, 1), (1, 1, 1), (1, 2), (1, 2, 1)))
        self.assertEqual(highest_idle(ALONE, wish), ((1, 1), (1, 2)))
        self.assertEqual(idle_parts(ALONE, ("no", ("and", ("no", A), B))), ((1, 2),))

    def test_nothing_is_idle_in_what_is_not_kept(self):
        self.assertIs(keeps(LAMP, ("ever", A)), False)
        for path in paths(("ever", A)):
            self.assertIs(is_idle(LAMP, ("ever", A), path), False)
        self.assertEqual(idle_parts(LAMP, ("ever", A)), ())


class TestIdle(Case):
    def test_by_the_hardened_wish(self):
        for machine, wish in small_samples():
            idle = []
            for path in paths(wish):
                told = self.same_again(is_idle, machine, wish, path)
                self.assertIs(told, keeps(machine, plain_hardened(wish, (path,))))
                run = self.same_again(interesting_run, machine, wish, path)
                self.assertIs(run is None, told)
                if run is not None:
                    self.assertTrue(plain_is_run(machine, run))
                    self.assertFalse(plain_worths(machine, plain_hardened(wish, (path,)), run)[0])
                    self.assertEqual(check_idle(machine, wish, path, ("matters", run)), "matters")
                if told:
                    idle.append(path)
            self.assertEqual(self.same_again(idle_parts, machine, wish), tuple(idle))
            self.assertIs(self.same_again(passes_idly, machine, wish), idle != [])
            highest = [path for path in idle if not any(path[:many] in idle for many in range(len(path)))]
            self.assertEqual(self.same_again(highest_idle, machine, wish), tuple(highest))

    def test_interesting_runs_keep_a_kept_wish(self):
        for machine, wish in small_samples():
            if keeps(machine, wish):
                for path in paths(wish):
                    run = interesting_run(machine, wish, path)
                    if run is not None:
                        self.assertTrue(plain_worths(machine, wish, run)[0])

    def test_against_all_small_parts(self):
        parts = small_wishes(1) + small_wishes(2) + small_wishes(3)[::5] + (("till", A, B), ("no", ("ever", A)))
        many = 0
        for machine, wish in small_samples()[:60]:
            if not keeps(machine, wish):
                continue
            for path in paths(wish):
                others = [plain_put(wish, path, part) for part in parts]
                told = [keeps(machine, other) for other in others if is_small(other)]
                # One that breaks the wish is among them, for the worst constant is.
                self.assertIs(is_idle(machine, wish, path), all(told))
                many += len(told)
        self.assertGreater(many, 1000)


class TestIdlePapers(Case):
    def test_papers_hold(self):
        for machine, wish in small_samples():
            for path in paths(wish):
                paper = self.same_again(idle_paper, machine, wish, path)
                word, told = paper
                self.assertEqual(word, "idle" if is_idle(machine, wish, path) else "matters")
                self.assertEqual(self.same_again(check_idle, machine, wish, path, paper), word)
                harder = plain_hardened(wish, (path,))
                if word == "idle":
                    self.assertEqual(check_keep(machine, harder, ("keeps", told)), "keeps")
                    self.assertTrue(len(machine[2]) > 2 or plain_table_holds(machine, harder, told))
                    self.refuses(BadPaper, "matters", check_idle, machine, wish, path, ("matters", told))
                else:
                    self.assertEqual(check_keep(machine, harder, ("fails", told)), "fails")
                    self.refuses(BadPaper, "idle", check_idle, machine, wish, path, ("idle", told))

    def test_timed_parts_are_those_of_the_hardened_wish(self):
        # Behind the "or" only one timed part is left; its number is 0.
        wish = ("or", ("ever", A), ("no", ("ever", B)))
        quiet = ((0,), ((0,),), ((),))
        word, table = idle_paper(quiet, wish, (1,))
        self.assertEqual((word, [line[:2] for line in table], table[0][3]), ("idle", [(0, (0,))], 0))
        self.assertEqual(check_idle(quiet, wish, (1,), ("idle", ((0, (0,), 4, 0),))), "idle")
        self.refuses(BadPaper, "idle", check_idle, quiet, wish, (1,), ("idle", ((0, (1,), 4, 1),)))
        self.refuses(BadPaper, "idle", check_idle, quiet, wish, (1,), ("idle", ((0, (0, 1), 4, 0),)))

    def test_form(self):
        papers = ODD + TRUTHS + (
            (), ("idle",), ("matters",), ("idle", (), ()), ["idle", ()], ("keeps", ()), ("fails", ((), (0,))),
            ("Idle", ()), (b"idle", ()), ((), "idle"), (None, ()), (True, ()), (AGREEING, ()), (GRUDGING, ()),
        )
        for paper in papers:
            self.refuses(BadPaper, "form", check_idle, QUIET, ANSWERED, (1, 2), paper)

    def test_what_does_not_hold(self):
        run = ((0, 1), (2, 0))
        self.assertEqual(check_idle(HOUSE, ANSWERED, (1, 1), ("matters", ((), (0,)))), "matters")
        self.assertEqual(check_idle(QUICK, ANSWERED, (1, 2), ("matters", ((0, 1), (2, 0, 1)))), "matters")
        self.refuses(BadPaper, "matters", check_idle, QUICK, ANSWERED, (1, 2), ("matters", ((), (0,))))
        self.refuses(BadPaper, "matters", check_idle, QUIET, ANSWERED, (1,), ("matters", run))
        for odd in ODD + TRUTHS + (0, ((),), ((0,),), ((), ()), [(), (0,)]):
            self.refuses(BadPaper, "matters", check_idle, QUICK, ANSWERED, (1, 2), ("matters", odd))
            self.refuses(BadPaper, "idle", check_idle, QUIET, ANSWERED, (1, 2), ("idle", odd))
        table = idle_paper(QUIET, ANSWERED, (1, 2))[1]
        self.assertGreater(len(table), 0)
        self.refuses(BadPaper, "idle", check_idle, QUIET, ANSWERED, (1, 2), ("idle", table[1:]))
        self.refuses(BadPaper, "idle", check_idle, QUIET, ANSWERED, (1, 2), ("idle", list(table)))
        self.refuses(BadPaper, "idle", check_idle, HOUSE, ANSWERED, (1, 2), ("idle", table))

    def test_a_keep_paper_of_the_hardened_wish(self):
        harder = plain_hardened(ANSWERED, ((1, 2),))
        _, table = keep_paper(QUIET, harder)
        self.assertEqual(check_idle(QUIET, ANSWERED, (1, 2), ("idle", table)), "idle")
        self.refuses(BadPaper, "form", check_idle, QUIET, ANSWERED, (1, 2), ("keeps", table))


class TestBlame(Case):
    def test_softened_by_hand(self):
        self.assertEqual(self.same_again(softened, ANSWERED, ()), TRUE)
        self.assertEqual(self.same_again(softened, ANSWERED, (1,)), ("always", TRUE))
        self.assertEqual(softened(ANSWERED, (1, 1)), ("always", ("or", TRUE, ("ever", B))))
        self.assertEqual(softened(ANSWERED, (1, 1, 1)), ("always", ("or", ("no", FALSE), ("ever", B))))
        self.assertEqual(softened(("no", ("no", A)), (1, 1)), ("no", ("no", TRUE)))
        self.assertEqual(softened(("till", A, ("no", B)), (2, 1)), ("till", A, ("no", FALSE)))
        self.refuses(BadPath, (2,), softened, ANSWERED, (2,))

    def test_softened_is_what_hardened_is_not(self):
        for wish in some_wishes(53, 100):
            for path in paths(wish):
                other = TRUE if plain_is_plain(wish, path) else FALSE
                self.assertEqual(softened(wish, path), plain_put(wish, path, other))

    def test_by_hand(self):
        # The house may wait for ever: the answer that has to come is to blame.
        self.assertEqual(self.same_again(blamed_parts, HOUSE, ANSWERED),
                         ((), (1,), (1, 1), (1, 1, 1), (1, 2), (1, 2, 1)))
        self.assertEqual(self.same_again(blamed_parts, LAMP, ("and", TRUE, ("ever", A))), ((), (2,), (2, 1)))
        self.assertEqual(blamed_parts(LAMP, ("and", ("ever", A), A)), ((),))
        self.assertEqual(blamed_parts(LAMP, FALSE), ((),))
        self.assertEqual(blamed_parts(LAMP, ("no", ("or", A, ("next", A)))), ((), (1,), (1, 2), (1, 2, 1)))
        self.assertIs(self.same_again(rests_on, LAMP, ("and", TRUE, ("ever", A)), (2,)), True)
        self.assertIs(self.same_again(rests_on, LAMP, ("and", TRUE, ("ever", A)), (1,)), False)

    def test_nothing_rests_if_the_wish_is_kept(self):
        for machine, wish in SAMPLES:
            if keeps(machine, wish):
                self.assertEqual(self.same_again(blamed_parts, machine, wish), ())
                for path in paths(wish):
                    self.assertIs(rests_on(machine, wish, path), False)

    def test_by_the_softened_wish(self):
        for machine, wish in small_samples():
            kept = keeps(machine, wish)
            blamed = []
            for path in paths(wish):
                told = self.same_again(rests_on, machine, wish, path)
                self.assertIs(told, not kept and keeps(machine, softened(wish, path)))
                if told:
                    blamed.append(path)
            self.assertEqual(self.same_again(blamed_parts, machine, wish), tuple(blamed))
            self.assertEqual(() in blamed, not kept)


class TestSeveralRuns(Case):
    def test_equal_calls(self):
        chance = random.Random(54)
        for machine, wish in zip(some_machines(55, 40), some_wishes(56, 40)):
            path = chance.choice(paths(wish))
            self.same_again(interesting_run, machine, wish, path)
            self.same_again(idle_paper, machine, wish, path)


if __name__ == "__main__":
    unittest.main()
