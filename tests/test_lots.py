"""Parts that are idle together, and harder wishes (points 42 and 43)."""

import random
import unittest

from idlewishes.errors import BadPath
from idlewishes.idle import idle_parts
from idlewishes.keeping import keeps
from idlewishes.lots import are_idle, cleared, hardened_at, harder_wishes, idle_lots
from idlewishes.values import worths
from idlewishes.wishes import hardened, paths
from tests.plain import (
    plain_cleared, plain_hardened, plain_is_under, plain_path_lots, plain_walk,
)
from tests.samples import (
    A, AGREEING, ALONE, B, FALSE, GRUDGING, LASSO, ODD, OPEN, TRUE, TRUTHS, Case, joined, nested, small_wishes,
    some_machines, some_run, some_wishes,
)

C = ("mark", 2)
LAMP = ((0,), ((0, 1), (0, 1)), ((), (0,)))
QUIET = ((0,), ((0,), (1, 2), (0,)), ((), (0,), (1,)))
ANSWERED = ("always", ("or", ("no", A), ("ever", B)))


def samples(seed, many, most=4):
    """So many pairs of a machine and a wish, and some by hand."""
    return [
        (ALONE, ("or", A, B)), (QUIET, ANSWERED), (ALONE, ("or", ("and", A, B), ("no", ("and", A, C)))),
        (LAMP, ("ever", A)), (LAMP, TRUE), (ALONE, joined(A, A, ("or", B, B))),
    ] + list(zip(some_machines(seed, many, most), some_wishes(seed + 1, many)))


class TestLotsOfPaths(Case):
    WISH = ("or", ("and", A, ("no", B)), ("till", A, ("ever", C)))

    def test_hardened_at_by_hand(self):
        wish = self.WISH
        self.assertEqual(self.same_again(hardened_at, wish, ()), wish)
        self.assertEqual(self.same_again(hardened_at, wish, ((),)), FALSE)
        self.assertEqual(self.same_again(hardened_at, wish, ((1,),)), ("or", FALSE, wish[2]))
        self.assertEqual(
            self.same_again(hardened_at, wish, ((1, 2, 1), (2, 1))),
            ("or", ("and", A, ("no", TRUE)), ("till", FALSE, ("ever", C))),
        )
        self.assertEqual(
            hardened_at(wish, ((1, 1), (1, 2), (2, 1), (2, 2, 1))),
            ("or", ("and", FALSE, FALSE), ("till", FALSE, ("ever", FALSE))),
        )
        self.assertEqual(hardened_at(("no", ("no", A)), ((1,),)), ("no", TRUE))

    def test_hardened_at_one_path(self):
        for wish in some_wishes(91, 60):
            for path in paths(wish):
                self.assertEqual(hardened_at(wish, (path,)), hardened(wish, path))

    def test_all_lots(self):
        for wish in [self.WISH] + some_wishes(92, 40):
            good = plain_path_lots(wish)
            for lot in good:
                self.assertEqual(hardened_at(wish, lot), plain_hardened(wish, lot))
                self.assertIs(are_idle(LASSO, wish, lot), keeps(LASSO, plain_hardened(wish, lot)))
            # All other tuples of two paths are refused.
            for one in paths(wish):
                for other in paths(wish):
                    if (one, other) not in good:
                        self.refuses(BadPath, (one, other), hardened_at, wish, (one, other))
                        self.refuses(BadPath, (one, other), are_idle, LASSO, wish, (one, other))

    def test_no_lots(self):
        lots = ODD + TRUTHS + (
            0, 1, (0,), (1,), ((3,),), ((0,),), ((1, 3),), ((1, 1, 1),), ((True,),), ((1, True),), ([1],), ([],),
            [(1,)], [], ((1,), None), ((1,), [2]), (None,), ("",), ("1",), ((1,), ()), ((), ()), ((), (1,)),
            ((1,), (1,)), ((2,), (1,)), ((1,), (1, 1)), ((1, 1), (1,)), ((1,), (1, 2), (2,)), ((1, 1), (1, 2), (1, 2, 1)),
            ((1, 1), (2,), (2, 2, 1)), ((1, 2), (1, 1)), ((1, 1), (2,), (2,)), ((-1,),), ((10 ** 40,),), (AGREEING,),
            (GRUDGING,), ((GRUDGING,),), ((AGREEING,),), ((1,), (2, 3)), {(1,): True}, {(1,)},
        )
        for lot in lots:
            self.refuses_itself(BadPath, lot, hardened_at, self.WISH, lot)
            self.refuses_itself(BadPath, lot, are_idle, LAMP, self.WISH, lot)

    def test_a_mark_has_no_parts(self):
        for lot in (((1,),), ((1, 1),)):
            self.refuses(BadPath, lot, hardened_at, B, lot)
        self.assertEqual(hardened_at(B, ((),)), FALSE)


class TestIdleLots(Case):
    def test_each_alone_and_not_both(self):
        wish = ("or", A, B)
        self.assertIs(self.same_again(are_idle, ALONE, wish, ((1,),)), True)
        self.assertIs(are_idle(ALONE, wish, ((2,),)), True)
        self.assertIs(self.same_again(are_idle, ALONE, wish, ((1,), (2,))), False)
        self.assertEqual(self.same_again(idle_lots, ALONE, wish), (((1,),), ((2,),)))
        self.assertEqual(self.same_again(harder_wishes, ALONE, wish), (A, B))

    def test_nothing_but_the_empty_lot(self):
        self.assertEqual(self.same_again(idle_lots, ALONE, A), ((),))
        self.assertEqual(self.same_again(harder_wishes, ALONE, A), (A,))
        self.assertEqual(idle_lots(LAMP, TRUE), ((),))
        self.assertEqual(harder_wishes(LAMP, TRUE), (TRUE,))
        self.assertIs(self.same_again(are_idle, LAMP, TRUE, ()), True)

    def test_a_wish_that_is_not_kept(self):
        self.assertEqual(self.same_again(idle_lots, LAMP, ("ever", A)), ())
        self.assertEqual(self.same_again(harder_wishes, LAMP, ("ever", A)), ())
        for lot in plain_path_lots(("ever", A)):
            self.assertIs(are_idle(LAMP, ("ever", A), lot), False)

    def test_the_hollow_yes(self):
        self.assertEqual(self.same_again(idle_lots, QUIET, ANSWERED), (((1, 2),),))
        # What is left: no request comes ever.
        self.assertEqual(self.same_again(harder_wishes, QUIET, ANSWERED), (("always", ("no", A)),))

    def test_lots_of_several_paths(self):
        wish = ("or", ("or", A, B), ("or", C, ("mark", 3)))
        told = (((1,), (2, 1)), ((1,), (2, 2)), ((1, 1), (2,)), ((1, 2), (2,)))
        self.assertEqual(self.same_again(idle_lots, ALONE, wish), told)
        self.assertEqual(self.same_again(harder_wishes, ALONE, wish), (A, B, C, ("mark", 3)))

    def test_greatest_lots_of_unlike_size(self):
        # Either the whole "and" on one side, or both sides of the other "or".
        wish = ("or", ("and", A, B), ("or", A, C))
        told = (((1,), (2, 1)), ((1,), (2, 2)), ((2,),))
        self.assertEqual(self.same_again(idle_lots, ALONE, wish), told)
        self.assertEqual(harder_wishes(ALONE, wish), (("and", A, B), A, C))

    def test_each_harder_wish_once(self):
        self.assertEqual(idle_lots(ALONE, ("or", A, A)), (((1,),), ((2,),)))
        self.assertEqual(self.same_again(harder_wishes, ALONE, ("or", A, A)), (A,))
        wish = ("or", ("or", B, A), ("or", A, B))
        self.assertEqual(len(idle_lots(ALONE, wish)), 4)
        self.assertEqual(self.same_again(harder_wishes, ALONE, wish), (A, B))

    def test_ascending(self):
        # The lots come in the order of B, A; the wishes in that of A, B.
        self.assertEqual(idle_lots(ALONE, ("or", B, A)), (((1,),), ((2,),)))
        self.assertEqual(harder_wishes(ALONE, ("or", B, A)), (A, B))
        self.assertEqual(harder_wishes(ALONE, ("or", ("next", A), ("ever", A))), (("ever", A), ("next", A)))
        deep = ("or", nested("no", 2, A), nested("next", 2, A))
        self.assertEqual(harder_wishes(ALONE, deep), (nested("next", 2, A), nested("no", 2, A)))

    def test_most_lots(self):
        wish = ("or", ("or", ("or", A, B), C), ("or", ("or", A, ("no", B)), C))
        self.assertEqual(len(plain_path_lots(wish)), 11 * 15 + 1)
        told = self.same_again(idle_lots, OPEN, wish)
        self.assertEqual(told, (((1, 1, 1), (1, 2), (2, 1, 1), (2, 2)),))
        self.assertEqual(harder_wishes(OPEN, wish), (("or", B, ("no", B)),))

    def test_against_the_words(self):
        sizes = {}
        for machine, wish in samples(93, 120):
            idle = [lot for lot in plain_path_lots(wish) if keeps(machine, plain_hardened(wish, lot))]
            greatest = [
                lot for lot in idle
                if not any(other != lot and plain_is_under(lot, other) for other in idle)
            ]
            self.assertEqual(self.same_again(idle_lots, machine, wish), tuple(sorted(greatest)))
            harder = [plain_cleared(plain_hardened(wish, lot)) for lot in greatest]
            harder = sorted(wish for at, wish in enumerate(harder) if wish not in harder[:at])
            self.assertEqual(self.same_again(harder_wishes, machine, wish), tuple(harder))
            sizes[len(greatest)] = sizes.get(len(greatest), 0) + 1
            for other in harder:
                self.assertIs(keeps(machine, other), True)
            if keeps(machine, wish):
                self.assertGreater(len(greatest), 0)
                single = [lot[0] for lot in idle if len(lot) == 1]
                self.assertEqual(tuple(single), idle_parts(machine, wish))
        self.assertGreater(sizes[0], 20)
        self.assertGreater(sizes[1], 20)
        self.assertGreater(sum(sizes.get(many, 0) for many in (2, 3, 4)), 3)

    def test_what_is_under_an_idle_lot(self):
        chance = random.Random(95)
        for machine, wish in samples(96, 40):
            lots = plain_path_lots(wish)
            for lot in idle_lots(machine, wish):
                for other in chance.sample(lots, min(12, len(lots))):
                    if plain_is_under(other, lot):
                        self.assertIs(are_idle(machine, wish, other), True)


class TestCleared(Case):
    def clears(self, wish, told):
        self.assertEqual(self.same_again(cleared, wish), told)
        self.assertEqual(plain_cleared(wish), told)

    def test_constants_and_marks_stay(self):
        for wish in (TRUE, FALSE, A, B, ("no", A), ("and", A, B), ("or", A, A), ("till", A, B), ("next", A),
                     ("ever", A), ("always", A), ANSWERED, ("ever", ("ever", A)), ("no", ("no", A))):
            self.clears(wish, wish)

    def test_no(self):
        self.clears(("no", TRUE), FALSE)
        self.clears(("no", FALSE), TRUE)
        self.clears(("no", ("no", FALSE)), FALSE)

    def test_and(self):
        self.clears(("and", FALSE, A), FALSE)
        self.clears(("and", A, FALSE), FALSE)
        self.clears(("and", TRUE, A), A)
        self.clears(("and", A, TRUE), A)
        self.clears(("and", TRUE, FALSE), FALSE)
        self.clears(("and", FALSE, TRUE), FALSE)
        self.clears(("and", TRUE, TRUE), TRUE)
        self.clears(("and", FALSE, FALSE), FALSE)

    def test_or(self):
        self.clears(("or", TRUE, A), TRUE)
        self.clears(("or", A, TRUE), TRUE)
        self.clears(("or", FALSE, A), A)
        self.clears(("or", A, FALSE), A)
        self.clears(("or", TRUE, FALSE), TRUE)
        self.clears(("or", FALSE, TRUE), TRUE)
        self.clears(("or", TRUE, TRUE), TRUE)
        self.clears(("or", FALSE, FALSE), FALSE)

    def test_till(self):
        self.clears(("till", A, TRUE), TRUE)
        self.clears(("till", A, FALSE), FALSE)
        self.clears(("till", FALSE, A), A)
        self.clears(("till", TRUE, A), ("ever", A))
        self.clears(("till", TRUE, TRUE), TRUE)
        self.clears(("till", TRUE, FALSE), FALSE)
        self.clears(("till", FALSE, TRUE), TRUE)
        self.clears(("till", FALSE, FALSE), FALSE)

    def test_next_ever_always(self):
        for word in ("next", "ever", "always"):
            self.clears((word, TRUE), TRUE)
            self.clears((word, FALSE), FALSE)
            self.clears((word, (word, FALSE)), FALSE)

    def test_within_first(self):
        self.clears(("till", ("no", FALSE), ("ever", A)), ("ever", ("ever", A)))
        self.clears(("till", ("and", A, ("no", TRUE)), ("next", A)), ("next", A))
        self.clears(("till", A, ("or", B, ("always", TRUE))), TRUE)
        self.clears(("and", ("or", FALSE, A), ("no", ("ever", FALSE))), A)
        self.clears(("always", ("or", ("no", A), ("and", B, FALSE))), ("always", ("no", A)))
        self.clears(("next", ("till", TRUE, ("till", TRUE, A))), ("next", ("ever", ("ever", A))))
        self.clears(nested("no", 11), FALSE)
        self.clears(nested("no", 11, A), nested("no", 11, A))
        self.clears(("or", ("and", A, B), ("and", FALSE, ("ever", B))), ("and", A, B))

    def test_small_and_great_wishes(self):
        for wish in small_wishes(2) + small_wishes(3) + small_wishes(4)[::5] + tuple(some_wishes(97, 300)):
            told = cleared(wish)
            self.assertEqual(told, plain_cleared(wish))
            self.assertEqual(cleared(told), told)
            words = [part[0] for _, part in plain_walk(told)]
            self.assertTrue(len(words) == 1 or not {"true", "false"} & set(words))

    def test_the_same_worth(self):
        chance = random.Random(98)
        for machine, wish in samples(99, 150, 5):
            run = some_run(chance, machine, 5)
            self.assertEqual(worths(machine, wish, run), worths(machine, cleared(wish), run))


if __name__ == "__main__":
    unittest.main()
