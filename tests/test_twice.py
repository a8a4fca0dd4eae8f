"""Parts that stand several times (points 40 and 41)."""

import random
import unittest

from idlewishes.errors import BadMachine, BadPaper, BadWish, TooGreat
from idlewishes.idle import is_idle
from idlewishes.keeping import is_kept, keeps
from idlewishes.twice import (
    breaking_lot, check_moments, doubled, freed, has_one_sign, is_idle_by_constants, is_idle_by_moments,
    is_idle_by_standings, moments_paper, places,
)
from idlewishes.values import marks_along, worth_row
from idlewishes.wishes import need_wish, part_at, paths
from tests.plain import (
    plain_begins, plain_doubled, plain_filled, plain_is_plain, plain_lots, plain_marked, plain_places,
    plain_table_holds, plain_walk,
)
from tests.samples import (
    A, AGREEING, ALONE, B, EIGHT, FALSE, GRUDGING, LASSO, ODD, OPEN, TRUE, TRUTHS, Case, plain_is_run,
    plain_worth, small_wishes, some_machines, some_wishes,
)

C = ("mark", 2)
FREE = ("mark", 4)
LAMP = ((0,), ((0, 1), (0, 1)), ((), (0,)))
BLINKS = ((0,), ((1,), (0,)), ((), (0,)))
# A single standing, and a ring of two, without marks.
DARK = ((0,), ((0,),), ((),))
TWO = ((0,), ((1,), (0,)), ((), ()))


def ring(many):
    """A machine that goes round so many standings; the mark 0 is at the first one."""
    ways = tuple((number + 1,) for number in range(many - 1)) + ((0,),)
    return ((0,), ways, ((0,),) + ((),) * (many - 1))


def same_for_ever(part):
    """The wish that a part never changes."""
    return ("or", ("always", part), ("always", ("no", part)))


def some_parts(seed, many, most):
    """So many triples of a machine, a wish and a part of it, or another one."""
    chance = random.Random(seed)
    triples = []
    for machine, wish in zip(some_machines(seed + 1, many, most), some_wishes(seed + 2, many)):
        # Marks stand several times most often.
        inner = [part for _, part in plain_walk(wish)]
        marks = [part for part in inner if part[0] == "mark"]
        triples.append((machine, wish, chance.choice(marks or inner)))
        triples.append((machine, wish, chance.choice(inner + [B])))
    return triples


class TestPlaces(Case):
    def test_by_hand(self):
        wish = ("or", ("and", A, ("no", A)), ("till", ("ever", A), ("no", A)))
        told = ((1, 1), (1, 2, 1), (2, 1, 1), (2, 2, 1))
        self.assertEqual(self.same_again(places, wish, A), told)
        self.assertEqual(self.same_again(places, wish, ("no", A)), ((1, 2), (2, 2)))
        self.assertEqual(self.same_again(places, wish, wish), ((),))
        self.assertEqual(self.same_again(places, wish, B), ())
        self.assertEqual(places(wish, ("or", wish[1], A)), ())
        self.assertEqual(places(("ever", ("ever", ("ever", A))), ("ever", A)), ((1, 1),))
        self.assertEqual(places(("and", TRUE, FALSE), TRUE), ((1,),))
        self.assertEqual(places(A, A), ((),))

    def test_greater_than_the_wish(self):
        self.assertEqual(places(A, ("no", A)), ())
        self.assertEqual(places(("no", A), ("no", ("no", A))), ())

    def test_against_the_walk(self):
        for _, wish, part in some_parts(61, 60, 2):
            told = places(wish, part)
            self.assertEqual(told, plain_places(wish, part))
            for path in paths(wish):
                self.assertEqual(path in told, part_at(wish, path) == part)

    def test_no_place_stands_in_another_one(self):
        for _, wish, part in some_parts(64, 60, 2):
            told = places(wish, part)
            for path in told:
                self.assertEqual([at for at in told if plain_begins(path, at)], [path])

    def test_wrong_part(self):
        self.refuses(BadWish, (), places, A, ("mark", 4))
        self.refuses(BadWish, (1,), places, A, ("no", ("mark", 4)))
        self.refuses(BadWish, (1,), freed, A, ("no", ("mark", True)))
        self.refuses(BadWish, (2,), has_one_sign, ("and", A, None), ("no", None))
        self.refuses(BadWish, (), freed, ("mark", 4), A)


class TestSigns(Case):
    def test_by_hand(self):
        self.assertIs(self.same_again(has_one_sign, ("or", A, ("no", A)), A), False)
        self.assertIs(self.same_again(has_one_sign, ("or", ("no", ("no", A)), A), A), True)
        self.assertIs(self.same_again(has_one_sign, ("or", ("no", A), ("no", A)), A), True)
        self.assertIs(self.same_again(has_one_sign, ("no", ("or", A, ("no", ("no", A)))), A), True)
        self.assertIs(self.same_again(has_one_sign, ("no", ("or", A, ("no", A))), A), False)
        self.assertIs(self.same_again(has_one_sign, ("no", A), ("no", A)), True)

    def test_without_places(self):
        self.assertIs(self.same_again(has_one_sign, ("or", A, ("no", A)), B), True)

    def test_against_the_words(self):
        for _, wish, part in some_parts(67, 80, 2):
            signs = {plain_is_plain(wish, path) for path in plain_places(wish, part)}
            self.assertIs(has_one_sign(wish, part), len(signs) < 2)


class TestFreed(Case):
    def test_by_hand(self):
        wish = ("or", ("and", A, ("no", A)), ("till", ("ever", A), B))
        told = ("or", ("and", FREE, ("no", FREE)), ("till", ("ever", FREE), B))
        self.assertEqual(self.same_again(freed, wish, A), told)
        self.assertEqual(self.same_again(freed, wish, ("no", A)), ("or", ("and", A, FREE), wish[2]))
        self.assertEqual(self.same_again(freed, wish, wish), FREE)
        self.assertEqual(self.same_again(freed, wish, C), wish)
        # It is no wish any more.
        self.refuses(BadWish, (1, 1), need_wish, freed(wish, A))

    def test_against_the_words(self):
        for _, wish, part in some_parts(70, 80, 2):
            self.assertEqual(freed(wish, part), plain_filled(wish, part, FREE))


class TestDoubled(Case):
    def test_by_hand(self):
        self.assertEqual(self.same_again(doubled, DARK), ((0, 1), ((0, 1), (0, 1)), ((), (4,))))
        self.assertEqual(
            self.same_again(doubled, LASSO),
            (
                (0, 1),
                ((2, 3), (2, 3), (4, 5), (4, 5), (2, 3), (2, 3), (0, 1, 6, 7), (0, 1, 6, 7)),
                ((), (4,), (0,), (0, 4), (0, 1), (0, 1, 4), (2, 3), (2, 3, 4)),
            ),
        )
        starts, ways, marks = self.same_again(doubled, EIGHT)
        self.assertEqual(starts, (0, 1, 14, 15))
        self.assertEqual((len(ways), len(marks)), (16, 16))
        self.assertEqual(marks[12:14], ((0, 1, 2, 3), (0, 1, 2, 3, 4)))

    def test_against_the_words(self):
        for machine in some_machines(73, 60):
            self.assertEqual(doubled(machine), plain_doubled(machine))

    def test_no_machine(self):
        for value in ODD + TRUTHS:
            self.refuses(BadMachine, (), doubled, value)
        self.refuses(BadMachine, (), doubled, doubled(LASSO)[:2])
        self.refuses(BadMachine, (2, 1), doubled, doubled(DARK))
        self.refuses(BadMachine, (2,), doubled, doubled(EIGHT))


class TestThreeWays(Case):
    def are(self, machine, wish, part, moments, standings, constants):
        """Whether a part is idle in each of the three ways."""
        self.assertIs(self.same_again(is_idle_by_moments, machine, wish, part), moments)
        self.assertIs(self.same_again(is_idle_by_standings, machine, wish, part), standings)
        self.assertIs(self.same_again(is_idle_by_constants, machine, wish, part), constants)
        self.assertIs(self.same_again(breaking_lot, machine, wish, part) is None, standings)

    def test_idle_in_all_ways(self):
        self.are(LAMP, ("or", A, ("no", A)), A, True, True, True)
        self.are(LAMP, ("or", ("ever", A), ("no", ("ever", A))), A, True, True, True)
        self.are(LAMP, ("or", ("ever", A), ("no", ("ever", A))), ("ever", A), True, True, True)
        self.are(ALONE, ("or", A, B), A, True, True, True)

    def test_by_constants_alone(self):
        self.are(TWO, same_for_ever(A), A, False, False, True)
        self.are(LAMP, same_for_ever(B), B, False, False, True)
        self.are(LAMP, same_for_ever(("ever", B)), ("ever", B), False, False, True)

    def test_by_standings_and_not_by_moments(self):
        self.are(DARK, same_for_ever(A), A, False, True, True)
        self.are(ALONE, same_for_ever(("and", A, C)), ("and", A, C), False, True, True)
        # In the ring of two each standing comes again at the moment after the next one.
        again = ("or", ("no", A), ("next", ("next", A)))
        self.are(TWO, again, A, False, True, True)
        self.are(LAMP, again, A, False, False, True)

    def test_in_no_way(self):
        self.are(LAMP, ("ever", A), A, False, False, False)
        self.are(LAMP, ("and", A, ("no", A)), A, False, False, False)
        self.are(BLINKS, ("next", A), A, False, False, False)

    def test_without_places(self):
        self.are(BLINKS, ("next", A), B, True, True, True)
        self.are(LAMP, ("next", A), B, False, False, False)
        self.assertEqual(self.same_again(breaking_lot, LAMP, ("next", A), B), ())
        self.assertIsNone(breaking_lot(BLINKS, ("next", A), B))

    def test_the_whole(self):
        self.are(LAMP, TRUE, TRUE, False, False, False)
        self.are(LAMP, same_for_ever(A), same_for_ever(A), False, False, False)

    def test_against_the_words(self):
        unlike = {}
        for machine, wish, part in some_parts(76, 150, 4):
            moments = is_kept(plain_doubled(machine), plain_filled(wish, part, FREE))
            lots = [
                lot for lot in plain_lots(len(machine[2]))
                if not is_kept(plain_marked(machine, lot), plain_filled(wish, part, FREE))
            ]
            constants = all(keeps(machine, plain_filled(wish, part, other)) for other in (TRUE, FALSE))
            self.are(machine, wish, part, moments, lots == [], constants)
            self.assertEqual(breaking_lot(machine, wish, part), lots[0] if lots else None)
            # The facts of point 41.
            self.assertTrue(lots == [] or not moments)
            self.assertTrue(constants or lots != [])
            if has_one_sign(wish, part):
                self.assertEqual(moments, constants)
            if len(plain_places(wish, part)) == 1:
                self.assertEqual(moments, is_idle(machine, wish, plain_places(wish, part)[0]))
            told = (moments, lots == [], constants)
            unlike[told] = unlike.get(told, 0) + 1
        self.assertGreater(unlike[(True, True, True)], 9)
        self.assertGreater(unlike[(False, False, False)], 9)

    def test_what_is_idle_by_moments_may_be_anything(self):
        parts = small_wishes(1) + small_wishes(2) + (("till", A, B), ("ever", ("no", B)))
        idle = 0
        for machine, wish, part in some_parts(79, 120, 3):
            if is_idle_by_moments(machine, wish, part):
                idle += 1
                for other in parts:
                    self.assertTrue(is_kept(machine, plain_filled(wish, part, other)))
        self.assertGreater(idle, 20)


class TestBreakingLot(Case):
    def test_the_first_of_the_smallest(self):
        self.assertEqual(self.same_again(breaking_lot, ring(4), ("no", ("ever", A)), A), (0,))
        self.assertEqual(self.same_again(breaking_lot, ring(4), ("no", ("next", ("next", A))), A), (2,))
        self.assertEqual(self.same_again(breaking_lot, ring(4), ("ever", A), A), ())
        self.assertEqual(self.same_again(breaking_lot, ring(4), ("no", ("always", A)), A), (0, 1, 2, 3))
        both = ("no", ("and", ("next", A), ("next", ("next", ("next", A)))))
        self.assertEqual(self.same_again(breaking_lot, ring(5), both, A), (1, 3))
        either = ("no", ("or", ("next", ("next", A)), ("and", A, ("next", A))))
        self.assertEqual(self.same_again(breaking_lot, ring(3), either, A), (2,))

    def test_smaller_ahead_of_lesser(self):
        # (1,) breaks it, and (0, 2) does, which is the lesser tuple.
        wish = ("no", ("or", ("next", A), ("and", A, ("next", ("next", A)))))
        self.assertIs(is_kept(plain_marked(ring(3), (0, 2)), freed(wish, A)), False)
        self.assertEqual(breaking_lot(ring(3), wish, A), (1,))

    def test_standings_to_which_no_run_comes(self):
        wish = ("or", ("no", ("ever", C)), ("ever", C))
        self.assertIsNone(breaking_lot(LASSO, wish, C))
        self.assertEqual(breaking_lot(LASSO, ("no", ("ever", C)), C), (0,))

    def test_six_and_seven_standings(self):
        six, seven = ring(6), ring(7)
        self.assertEqual(breaking_lot(six, ("no", ("always", A)), A), (0, 1, 2, 3, 4, 5))
        self.assertIs(is_idle_by_standings(six, ("or", A, ("no", A)), A), True)
        for machine in (seven, ring(8), EIGHT):
            for call in (breaking_lot, is_idle_by_standings):
                for wish in (A, ("or", A, ("no", A)), TRUE):
                    for part in (A, B, TRUE):
                        self.refuses(TooGreat, 6, call, machine, wish, part)
                # Other errors come first.
                self.refuses(BadWish, (1,), call, machine, ("no", None), A)
                self.refuses(BadWish, (1,), call, machine, A, ("no", None))
                self.refuses(BadWish, (), call, machine, A, None)
        self.refuses(BadMachine, (2,), breaking_lot, ring(9), A, A)
        self.assertIs(is_idle_by_moments(seven, ("or", A, ("no", A)), A), True)
        self.assertIs(is_idle_by_constants(seven, ("or", A, ("no", A)), A), True)
        self.assertIs(is_idle_by_moments(EIGHT, same_for_ever(A), A), False)
        self.assertIs(is_idle_by_constants(EIGHT, same_for_ever(A), A), True)


class TestMomentsPapers(Case):
    def test_papers_hold(self):
        words = {"idle": 0, "matters": 0}
        samples = some_parts(82, 60, 4) + some_parts(85, 20, 8) + [
            (DARK, same_for_ever(A), A), (LAMP, ("or", ("ever", A), ("no", ("ever", A))), A),
            (EIGHT, ("or", ("till", A, B), ("no", ("till", A, B))), A), (EIGHT, same_for_ever(A), A),
        ]
        for machine, wish, part in samples:
            paper = self.same_again(moments_paper, machine, wish, part)
            word, told = paper
            words[word] += 1
            self.assertEqual(word, "idle" if is_idle_by_moments(machine, wish, part) else "matters")
            self.assertEqual(self.same_again(check_moments, machine, wish, part, paper), word)
            twice = plain_doubled(machine)
            wanted = plain_filled(wish, part, FREE)
            if word == "idle":
                self.assertTrue(len(machine[2]) > 2 or plain_table_holds(twice, wanted, told))
                self.refuses(BadPaper, "matters", check_moments, machine, wish, part, ("matters", told))
            else:
                self.assertTrue(plain_is_run(twice, told))
                marks = [twice[2][standing] for standing in told[0] + told[1]]
                self.assertFalse(plain_worth(marks, len(told[0]), wanted, 0))
                self.assertFalse(worth_row(wanted, marks_along(twice, told), len(told[0]))[0])
                self.refuses(BadPaper, "idle", check_moments, machine, wish, part, ("idle", told))
        self.assertGreater(words["idle"], 9)
        self.assertGreater(words["matters"], 9)

    def test_runs_by_hand(self):
        wish = same_for_ever(A)
        self.assertEqual(check_moments(DARK, wish, A, ("matters", ((0,), (1,)))), "matters")
        self.assertEqual(check_moments(DARK, wish, A, ("matters", ((), (1, 0)))), "matters")
        self.assertEqual(check_moments(EIGHT, wish, A, ("matters", ((), tuple(range(0, 15, 2)) + tuple(
            range(1, 16, 2))))), "matters")
        runs = (
            ((), (0,)), ((1, 1), (1,)), ((), (2,)), ((0,), (2,)), ((), ()), ((0,), ()), ((), (False,)), ((0,), (True,)),
            ((), [0, 1]), [(), (0, 1)], ((), (0, 1), ()), ((0,) * 2000, (1,)),
        )
        for run in runs + ODD + TRUTHS:
            self.refuses(BadPaper, "matters", check_moments, DARK, wish, A, ("matters", run))
        # A run of the machine doubled goes along its ways.
        self.refuses(BadPaper, "matters", check_moments, BLINKS, wish, A, ("matters", ((), (0, 1))))
        self.assertEqual(check_moments(BLINKS, wish, A, ("matters", ((), (0, 3)))), "matters")

    def test_tables_by_hand(self):
        wish = ("or", ("ever", A), ("no", ("ever", A)))
        self.assertEqual(check_moments(DARK, wish, A, ("idle", ())), "idle")
        # The doubled machine has a standing 1; the numbers are those of the freed wish.
        self.assertEqual(check_moments(DARK, ("or", wish, ("ever", B)), B, ("idle", ())), "idle")
        self.refuses(BadPaper, "idle", check_moments, DARK, same_for_ever(A), A, ("idle", ()))
        answer = ("or", ("ever", A), ("no", ("ever", B)))
        self.assertEqual(check_moments(DARK, answer, A, ("idle", ((0, (1,), 0, 1), (1, (1,), 0, 1)))), "idle")
        tables = (
            ((0, (1,), 0, 1),), ((0, (1,), 0, 0), (1, (1,), 0, 0)), ((0, (1,), 0, None), (1, (1,), 0, None)),
            ((1, (1,), 0, 1), (0, (1,), 0, 1)), ((0, (1,), 0, 1), (1, (1,), 1, 1)), ((0, (1,), 0, 1), (2, (1,), 0, 1)),
        )
        for table in tables + ODD + TRUTHS:
            self.refuses(BadPaper, "idle", check_moments, DARK, answer, A, ("idle", table))

    def test_form(self):
        papers = ODD + TRUTHS + (
            (), ("idle",), ("idle", (), ()), ["idle", ()], ("keeps", ()), ("fails", ((), (0,))), ("IDLE", ()),
            (b"idle", ()), ((), "idle"), (None, ()), (True, ()), (AGREEING, ()), (GRUDGING, ()),
        )
        for paper in papers:
            self.refuses(BadPaper, "form", check_moments, DARK, ("or", A, ("no", A)), A, paper)

    def test_without_places(self):
        self.assertEqual(moments_paper(LAMP, ("next", A), B)[0], "matters")
        self.assertEqual(moments_paper(BLINKS, ("next", A), B)[0], "idle")
        self.assertEqual(check_moments(LAMP, ("next", A), B, ("matters", ((0, 1), (0,)))), "matters")

    def test_open_machine(self):
        self.assertEqual(moments_paper(OPEN, ("or", A, ("no", A)), A), ("idle", ()))


if __name__ == "__main__":
    unittest.main()
