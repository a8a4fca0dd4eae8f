"""Wishes beside one another (point 44)."""

import random
import unittest

from idlewishes.beside import (
    apart_on, apart_run, are_alike, are_alike_on, can_be_so, follows, follows_on, is_always_so, is_apart_run,
    needless_wishes,
)
from idlewishes.errors import BadMachine, BadWish, TooGreat
from idlewishes.keeping import keeps
from idlewishes.machines import is_run
from idlewishes.values import keeps_run
from tests.plain import plain_keeps_marks, plain_mark_runs, plain_marks, plain_timed, plain_timed_together
from tests.samples import (
    A, AGREEING, ALONE, B, EIGHT, FALSE, GRUDGING, LASSO, ODD, OPEN, TRUE, TRUTHS, Case, joined, lively,
    nested, plain_is_run, plain_runs, plain_worths, small_wishes, some_wishes,
)

C = ("mark", 2)
D = ("mark", 3)
# From a mark 0 always to a mark 1, and back.
SWAP = ((0, 1), ((1,), (0,)), ((0,), (1,)))
# Five unlike timed parts, and one more.
FIVE = joined(("ever", A), ("always", A), ("next", ("next", ("ever", B))))
SIXTH = ("always", B)
ALL_MARKS = joined(A, B, C, D)


def some_pairs(seed, many, most=5):
    """So many pairs of wishes with at most so many unlike timed parts together; some are near to one another."""
    chance = random.Random(seed)
    pairs = []
    for one, other in zip(some_wishes(seed, 9 * many), some_wishes(seed + 1, 9 * many)):
        near = chance.choice((
            other, ("or", one, other), ("and", one, other), ("no", ("no", one)), ("ever", one), ("no", one), ("next", one),
        ))
        if len(plain_timed(near)) <= 5 and plain_timed_together(one, near) <= most:
            if size(one) <= 12 and size(near) <= 12:
                pairs.append(chance.choice(((one, near), (near, one))))
    return pairs[:many]


def size(wish):
    """How many parts a wish has."""
    return 1 + sum(size(inner) for inner in wish[1:] if wish[0] != "mark")


class TestFollows(Case):
    def both(self, one, other):
        """Whether other follows from one, and one from other; all that is told of it is looked at."""
        told = []
        for low, high in ((one, other), (other, one)):
            run = self.same_again(apart_run, low, high)
            told.append(self.same_again(follows, low, high))
            self.assertIs(told[-1], run is None)
            if run is not None:
                self.is_run_of_marks(run, plain_marks(low, high))
                self.assertTrue(plain_keeps_marks(low, run))
                self.assertFalse(plain_keeps_marks(high, run))
                self.assertIs(self.same_again(is_apart_run, low, high, run), True)
                self.assertIs(is_apart_run(high, low, run), False)
        self.assertIs(self.same_again(are_alike, one, other), all(told))
        return tuple(told)

    def is_run_of_marks(self, run, marks):
        """A run of marks with no other marks."""
        self.assertIs(run.__class__, tuple)
        ahead, ring = run
        self.assertIs(ahead.__class__, tuple)
        self.assertIs(ring.__class__, tuple)
        self.assertTrue(1 <= len(ring) <= len(ahead + ring) <= 2000)
        for there in ahead + ring:
            self.assertIs(there.__class__, tuple)
            self.assertEqual(list(there), sorted(set(there)))
            self.assertLessEqual(set(there), set(marks))

    def test_a_wish_and_itself(self):
        for wish in (TRUE, FALSE, A, ALL_MARKS, FIVE, ("till", A, B)) + tuple(some_wishes(201, 20)):
            self.assertEqual(self.both(wish, wish), (True, True))

    def test_a_wish_and_its_no(self):
        self.assertEqual(self.both(A, ("no", A)), (False, False))
        self.assertEqual(self.both(("till", A, B), ("no", ("till", A, B))), (False, False))
        self.assertEqual(self.both(("ever", A), ("always", ("no", A))), (False, False))
        self.assertEqual(self.both(("no", ("ever", A)), ("always", ("no", A))), (True, True))
        self.assertEqual(self.both(TRUE, ("no", TRUE)), (False, True))

    def test_till_and_ever(self):
        self.assertEqual(self.both(("till", A, B), ("ever", B)), (True, False))
        self.assertEqual(self.both(("till", TRUE, B), ("ever", B)), (True, True))
        self.assertEqual(self.both(("till", FALSE, B), B), (True, True))
        self.assertEqual(self.both(("till", A, B), ("or", B, ("and", A, ("next", ("till", A, B))))), (True, True))
        self.assertEqual(self.both(("till", A, B), ("or", A, B)), (True, False))

    def test_other_laws(self):
        self.assertEqual(self.both(("always", A), A), (True, False))
        self.assertEqual(self.both(A, ("ever", A)), (True, False))
        self.assertEqual(self.both(("always", A), ("next", A)), (True, False))
        self.assertEqual(self.both(("always", ("ever", A)), ("ever", ("always", A))), (False, True))
        self.assertEqual(self.both(("ever", ("and", A, B)), ("and", ("ever", A), ("ever", B))), (True, False))
        self.assertEqual(self.both(("ever", ("or", A, B)), ("or", ("ever", A), ("ever", B))), (True, True))
        self.assertEqual(self.both(("next", ("no", A)), ("no", ("next", A))), (True, True))
        self.assertEqual(self.both(nested("ever", 2, A), ("ever", A)), (True, True))
        self.assertEqual(self.both(("and", A, B), ("and", B, A)), (True, True))

    def test_wishes_without_marks(self):
        self.assertEqual(self.both(TRUE, FALSE), (False, True))
        self.assertEqual(self.both(TRUE, ("always", TRUE)), (True, True))
        self.assertEqual(self.both(("ever", FALSE), FALSE), (True, True))
        self.assertEqual(self.both(("next", TRUE), ("no", FALSE)), (True, True))
        # There is just one lot of no marks.
        ahead, ring = apart_run(TRUE, ("next", FALSE))
        self.assertEqual(set(ahead + ring), {()})

    def test_unlike_marks(self):
        self.assertEqual(self.both(A, B), (False, False))
        self.assertEqual(self.both(("and", A, C), C), (True, False))
        self.assertEqual(self.both(("always", ("and", A, D)), ("ever", ("or", B, D))), (True, False))
        self.assertEqual(self.both(FALSE, D), (True, False))
        self.assertEqual(self.both(D, TRUE), (True, False))
        self.assertEqual(self.both(ALL_MARKS, ("no", ALL_MARKS)), (False, False))
        self.assertEqual(self.both(("and", A, B), ("and", C, D)), (False, False))

    def test_all_small_wishes(self):
        wishes = small_wishes(1) + small_wishes(2) + small_wishes(3)[::7]
        runs = list(plain_mark_runs((0, 1), 2)) + list(plain_mark_runs((0,), 4))
        kept = [[plain_keeps_marks(wish, run) for run in runs] for wish in wishes]
        for one, told in zip(wishes, kept):
            for other, others in zip(wishes, kept):
                no_run = not any(so and not then for so, then in zip(told, others))
                self.assertIs(follows(one, other), no_run, (one, other))

    def test_against_short_runs(self):
        found = {}
        for one, other in some_pairs(203, 120):
            told = self.both(one, other)
            found[told] = found.get(told, 0) + 1
            marks = plain_marks(one, other)
            most = 1 if len(marks) > 2 else 2 if len(marks) == 2 else 3
            for run in plain_mark_runs(marks, most):
                first, second = plain_keeps_marks(one, run), plain_keeps_marks(other, run)
                self.assertIs(is_apart_run(one, other, run), first and not second)
                self.assertIs(is_apart_run(other, one, run), second and not first)
                if told[0]:
                    self.assertFalse(first and not second)
                if told[1]:
                    self.assertFalse(second and not first)
        for told in ((True, True), (True, False), (False, True), (False, False)):
            self.assertGreater(found.get(told, 0), 8, told)

    def test_a_long_run(self):
        # The mark comes at the moment 2 for the first time.
        wish = ("and", ("no", A), ("next", ("and", ("no", A), ("next", A))))
        self.assertEqual(self.both(wish, ("ever", ("always", ("no", A)))), (False, False))
        self.assertEqual(self.both(wish, ("ever", A)), (True, False))

    def test_five_and_six_timed_parts(self):
        for call in (follows, apart_run, are_alike):
            self.refuses(TooGreat, 5, call, FIVE, SIXTH)
            self.refuses(TooGreat, 5, call, SIXTH, FIVE)
            self.refuses(TooGreat, 5, call, ("or", ("ever", C), ("next", ("ever", C))), ("till", A, nested("always", 3, A)))
            call(FIVE, FIVE)
            # One that stands in both counts once.
            call(FIVE, ("ever", B))
            call(FIVE, ("and", ("ever", A), ("no", ("always", A))))
            call(nested("next", 4, A), ("ever", C))
            self.refuses(TooGreat, 5, call, nested("next", 4, A), ("ever", ("next", C)))
        for call in (apart_on, follows_on, are_alike_on):
            call(LASSO, FIVE, ("ever", B))
            self.refuses(TooGreat, 5, call, LASSO, FIVE, SIXTH)
        # What is no wish is told ahead of that.
        self.refuses(BadWish, (1,), follows, FIVE, ("no", SIXTH[0]))
        self.refuses(BadWish, (), apart_run, None, FIVE)
        self.refuses(BadMachine, (), apart_on, None, FIVE, SIXTH)
        self.refuses(BadWish, (2,), are_alike_on, LASSO, ("and", FIVE[2], None), SIXTH)

    def test_not_too_great_for_a_single_run(self):
        run = ((), ((1,),))
        self.assertIs(is_apart_run(FIVE, SIXTH, run), False)
        self.assertIs(is_apart_run(SIXTH, FIVE, run), True)

    def test_always_and_ever_so(self):
        for wish, always, ever in (
            (TRUE, True, True), (FALSE, False, False), (A, False, True), (("no", A), False, True),
            (("or", A, ("no", A)), True, True), (("and", A, ("no", A)), False, False),
            (("always", ("ever", A)), False, True), (("and", ("always", A), ("ever", ("no", A))), False, False),
            (("or", ("always", A), ("ever", ("no", A))), True, True), (("ever", FALSE), False, False),
            (("next", TRUE), True, True), (ALL_MARKS, False, True), (FIVE, False, True),
            (("and", ("next", A), ("next", ("no", A))), False, False), (nested("no", 11), False, False),
        ):
            self.assertIs(self.same_again(is_always_so, wish), always, wish)
            self.assertIs(self.same_again(can_be_so, wish), ever, wish)
            self.assertIs(follows(TRUE, wish), always)
            self.assertIs(follows(wish, FALSE), not ever)

    def test_always_so_against_short_runs(self):
        for wish in some_wishes(207, 60) + list(small_wishes(3)[::5]):
            kept = [plain_keeps_marks(wish, run) for run in plain_mark_runs(plain_marks(wish)[:2], 2)]
            if is_always_so(wish):
                self.assertTrue(all(kept), wish)
            if not can_be_so(wish):
                self.assertFalse(any(kept), wish)
            self.assertIs(is_always_so(wish), follows(TRUE, wish))
            self.assertIs(can_be_so(wish), not follows(wish, FALSE))


class TestIsApartRun(Case):
    def test_what_is_one(self):
        for run in (
            ((), ((0,),)), (((0,),), ((),)), (((0, 1),), ((1,), ())), (((0, 1, 2, 3),), ((0, 1, 2, 3),)),
            (((0, 3),), ((2,),)),
        ):
            self.assertIs(self.same_again(is_apart_run, A, ("no", A), run), True)
            self.assertIs(self.same_again(is_apart_run, ("no", A), A, run), False)
            self.assertIs(is_apart_run(A, A, run), False)
            self.assertIs(is_apart_run(TRUE, TRUE, run), False)
            self.assertIs(is_apart_run(TRUE, FALSE, run), True)

    def test_what_is_none(self):
        values = ODD + TRUTHS + (
            0, (), ((),), ((), ()), (((0,),), ()), ((), ((0,),), ()), [(), ((0,),)], ([], ((0,),)), ((), [(0,)]),
            ((), ([0],)), ((), (0,)), ((), ((True,),)), ((), ((False,),)), ((), ((4,),)), ((), ((-1,),)),
            ((), ((1, 0),)), ((), ((0, 0),)), ((), (("0",),)), ((), ((None,),)), (((0,), 1), ((0,),)), ((), "0"),
            (((),), ((), None)), ((), ((0, 10 ** 40),)), (AGREEING, AGREEING), (GRUDGING, ((),)), ((), (GRUDGING,)),
            ((), ((GRUDGING,),)), ((AGREEING,), ((),)), ((), ((AGREEING,),)), ((), (), ((),)), (((0, 1, 2, 3, 4),), ((),)),
            ((), {(0,)}), ({}, ((),)), ((), ((((0,),),),)), "((), ((0,),))",
        )
        for value in values:
            self.assertIs(is_apart_run(TRUE, FALSE, value), False)

    def test_two_thousand_moments(self):
        wish = ("next", ("ever", A))
        self.assertIs(is_apart_run(wish, A, (((),) * 1999, ((0,),))), True)
        self.assertIs(is_apart_run(wish, A, (((),) * 2000, ((0,),))), False)
        self.assertIs(is_apart_run(wish, A, ((), ((),) * 1999 + ((0,),))), True)
        self.assertIs(is_apart_run(wish, A, ((), ((),) * 2000 + ((0,),))), False)
        self.assertIs(is_apart_run(wish, A, (((),), ((),) * 1999 + ((0,),))), False)

    def test_wrong_wishes_come_first(self):
        self.refuses(BadWish, (), is_apart_run, None, None, None)
        self.refuses(BadWish, (1,), is_apart_run, TRUE, ("no", A[0]), None)


class TestOnMachines(Case):
    def check(self, machine, one, other):
        """Whether other follows from one on the machine; all that is told of it is looked at."""
        run = self.same_again(apart_on, machine, one, other)
        told = self.same_again(follows_on, machine, one, other)
        self.assertIs(told, run is None)
        if run is not None:
            self.assertIs(is_run(machine, run), True)
            self.assertTrue(plain_is_run(machine, run))
            self.assertTrue(plain_worths(machine, one, run)[0])
            self.assertFalse(plain_worths(machine, other, run)[0])
        both = told and follows_on(machine, other, one)
        self.assertIs(self.same_again(are_alike_on, machine, one, other), both)
        self.assertIs(are_alike_on(machine, other, one), both)
        return told

    def test_on_a_machine_and_not_elsewhere(self):
        self.assertIs(self.check(SWAP, A, ("next", B)), True)
        self.assertIs(self.check(SWAP, ("next", B), A), True)
        self.assertIs(follows(A, ("next", B)), False)
        self.assertIs(follows(("next", B), A), False)
        self.assertIs(self.check(SWAP, A, B), False)
        self.assertIs(self.check(SWAP, TRUE, ("always", ("ever", A))), True)
        self.assertIs(self.check(ALONE, TRUE, ALL_MARKS), True)
        self.assertIs(self.check(LASSO, ("ever", C), FALSE), True)
        self.assertIs(self.check(LASSO, TRUE, ("ever", C)), False)
        self.assertIs(self.check(OPEN, ("ever", A), ("ever", B)), False)

    def test_alike_on(self):
        self.assertIs(are_alike_on(SWAP, A, ("next", B)), True)
        self.assertIs(are_alike_on(SWAP, A, B), False)
        self.assertIs(are_alike_on(OPEN, ("ever", A), TRUE), False)
        self.assertIs(are_alike_on(OPEN, TRUE, ("ever", A)), False)

    def test_what_follows_does_so_on_each_machine(self):
        count = 0
        for one, other in some_pairs(211, 40):
            if follows(one, other):
                count += 1
                for machine in (OPEN, ALONE, LASSO, EIGHT, SWAP):
                    self.assertIs(follows_on(machine, one, other), True)
        self.assertGreater(count, 10)

    def test_against_short_runs(self):
        found = {True: 0, False: 0}
        wishes = [wish for _, wish in lively(213, 30, keeps)]
        for (machine, one), other in zip(lively(214, 60, keeps), wishes + [("ever", wish) for wish in wishes]):
            if size(other) > 12 or plain_timed_together(one, other) > 5:
                continue
            told = self.check(machine, one, other)
            found[told] += 1
            runs = list(plain_runs(machine, 3))
            apart = any(keeps_run(machine, one, run) and not keeps_run(machine, other, run) for run in runs)
            if told:
                self.assertFalse(apart)
        self.assertGreater(min(found.values()), 4)


class TestNeedless(Case):
    def test_by_hand(self):
        for wishes, told in (
            ((A,), ()), ((TRUE,), ()), ((FALSE,), ()), ((A, A), (1,)), ((A, A, A), (1, 2)), ((A, B), ()),
            ((A, ("ever", A)), (1,)), ((("ever", A), A), (0,)), ((("ever", A), A, ("ever", A)), (0, 2)),
            ((A, ("no", ("no", A)), ("and", A, B)), (0, 1)), ((("and", A, B), A, B), (1, 2)),
            ((TRUE, A), (0,)), ((TRUE, ("no", FALSE)), (1,)), ((A, FALSE, B), (0, 2)), ((FALSE, FALSE, TRUE), (1, 2)),
            ((("always", A), A, ("next", A), ("ever", A), ("till", B, A), TRUE), (1, 2, 3, 4, 5)),
            ((("ever", B), ("till", A, B), B, ("or", B, B), A, ("ever", B)), (0, 1, 3, 5)),
            ((A, B, C, D, ("no", A), ("no", B)), ()),
            # Two alike lots of three.
            ((A, B, ("and", A, A), ("or", B, B), ("no", ("no", A)), ("no", ("no", B))), (2, 3, 4, 5)),
        ):
            self.assertEqual(self.same_again(needless_wishes, wishes), told, wishes)

    def test_against_the_words(self):
        chance = random.Random(217)
        pool = list(small_wishes(1) + small_wishes(2) + small_wishes(3)[::9])
        for _ in range(40):
            wishes = tuple(chance.choice(pool) for _ in range(chance.randrange(1, 7)))
            told = []
            for number, wish in enumerate(wishes):
                others = [at for at in range(len(wishes)) if at != number and follows(wishes[at], wish)]
                alike = [at for at in others if follows(wish, wishes[at])]
                if [at for at in others if at not in alike] or [at for at in alike if at < number]:
                    told.append(number)
            self.assertEqual(needless_wishes(wishes), tuple(told), wishes)

    def test_what_is_left_tells_all(self):
        chance = random.Random(219)
        pool = list(small_wishes(2) + small_wishes(3)[::5])
        for _ in range(30):
            wishes = tuple(chance.choice(pool) for _ in range(5))
            needless = needless_wishes(wishes)
            self.assertLess(len(needless), len(wishes))
            left = [wish for number, wish in enumerate(wishes) if number not in needless]
            for wish in wishes:
                self.assertTrue(any(follows(other, wish) for other in left))
            self.assertEqual(needless_wishes(tuple(left)), ())

    def test_too_great(self):
        self.assertEqual(needless_wishes((FIVE,)), ())
        self.assertEqual(needless_wishes((FIVE, ("ever", B), FIVE)), (1, 2))
        self.refuses(TooGreat, 5, needless_wishes, (FIVE, SIXTH))
        self.refuses(TooGreat, 5, needless_wishes, (A, SIXTH, A, B, A, FIVE))
        # Three together have six, but no two of them.
        three = (nested("next", 2, A), nested("next", 2, B), nested("next", 2, C))
        self.assertEqual(needless_wishes(three), ())
        # What is no wish is told ahead of that.
        self.refuses(BadWish, (2, 1), needless_wishes, (FIVE, SIXTH, ("no", None)))

    def test_no_wishes(self):
        self.refuses(BadWish, (), needless_wishes, ())
        self.refuses(BadWish, (), needless_wishes, (A,) * 7)
        self.refuses(BadWish, (), needless_wishes, (None,) * 7)
        self.refuses(BadWish, (), needless_wishes, [A])
        self.assertEqual(needless_wishes((A,) * 6), (1, 2, 3, 4, 5))
        for value in ODD + TRUTHS + (0, 6):
            self.refuses(BadWish, (), needless_wishes, value)
            self.refuses(BadWish, (0,), needless_wishes, (value,))
            self.refuses(BadWish, (1,), needless_wishes, (A, value, None))
        # A single wish is a tuple of a word and something.
        self.refuses(BadWish, (0,), needless_wishes, A)
        self.refuses(BadWish, (0,), needless_wishes, TRUE)
        self.refuses(BadWish, (1, 2, 1), needless_wishes, (A, ("and", A, ("no", ("mark", 4))), None))
        self.refuses(BadWish, (1,), needless_wishes, (A, nested("next", 6, A)))
        self.refuses(BadWish, (0,), needless_wishes, (nested("no", 12), A))


if __name__ == "__main__":
    unittest.main()
