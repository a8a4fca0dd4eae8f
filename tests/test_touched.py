"""Marks and ways that wishes touch, or leave free (point 45)."""

import itertools
import random
import unittest

from idlewishes.errors import BadMachine, BadNumber, BadWish
from idlewishes.keeping import keeps
from idlewishes.machines import need_machine
from idlewishes.touched import fewest_wishes, free_ways, touched, turned, untouched, with_way
from tests.plain import plain_reached_pairs, plain_turned, plain_with_way
from tests.samples import (
    A, ALONE, B, EIGHT, FALSE, LASSO, MACHINES, ODD, OPEN, TRUE, TRUTHS, Case, joined, nested, plain_reached,
    small_wishes, some_machines, some_wishes,
)

C = ("mark", 2)
D = ("mark", 3)
LAMP = ((0,), ((0, 1), (0, 1)), ((), (0,)))
# 0 asks (mark 0), 1 answers (mark 1), 2 rests; 3 is never reached, and asks.
QUICK = ((0, 2), ((1,), (0, 2), (0, 2), (1, 3)), ((0,), (1,), (), (0,)))
ANSWERED = ("always", ("or", ("no", A), ("next", B)))


def plain_touched(machine, wish):
    """The pairs that a wish touches, read off point 45."""
    if not keeps(machine, wish):
        return ()
    return tuple(
        (standing, mark) for standing, mark in plain_reached_pairs(machine)
        if not keeps(plain_turned(machine, standing, mark), wish)
    )


def plain_free_ways(machine, wish):
    """The ways that are free for a wish, read off point 45."""
    found = []
    for one in plain_reached(machine):
        for other in range(len(machine[2])):
            if other not in machine[1][one] and keeps(machine, wish):
                if keeps(plain_with_way(machine, one, other), wish):
                    found.append((one, other))
    return tuple(found)


def kept_pairs(seed, many):
    """So many pairs of a machine and a wish that it keeps, and that is not always so."""
    pairs = []
    for machine, wish in zip(some_machines(seed, 40 * many, 5), some_wishes(seed + 1, 40 * many)):
        if keeps(machine, wish) and not keeps(OPEN, wish) and len(pairs) < many:
            pairs.append((machine, wish))
    return pairs


class TestTurned(Case):
    def test_by_hand(self):
        self.assertEqual(self.same_again(turned, LAMP, 0, 0), ((0,), ((0, 1), (0, 1)), ((0,), (0,))))
        self.assertEqual(self.same_again(turned, LAMP, 1, 0), ((0,), ((0, 1), (0, 1)), ((), ())))
        self.assertEqual(turned(LAMP, 1, 3), ((0,), ((0, 1), (0, 1)), ((), (0, 3))))
        self.assertEqual(turned(ALONE, 0, 2), ((0,), ((0,),), ((0, 1, 3),)))
        # At a standing to which no run comes, too.
        self.assertEqual(turned(LASSO, 3, 0)[2], ((), (0,), (0, 1), (0, 2, 3)))

    def test_all(self):
        for machine in MACHINES + tuple(some_machines(221, 30)):
            for standing in range(len(machine[2])):
                for mark in range(4):
                    told = turned(machine, standing, mark)
                    self.assertEqual(told, plain_turned(machine, standing, mark))
                    self.assertEqual(need_machine(told), told)
                    self.assertNotEqual(told, machine)
                    # What is turned twice is as it was.
                    self.assertEqual(turned(told, standing, mark), machine)

    def test_wrong_numbers(self):
        for value in ODD + TRUTHS + (-1, 2, 8, 10 ** 40, -(10 ** 40), (0,)):
            self.refuses_itself(BadNumber, value, turned, LAMP, value, 0)
            self.refuses_itself(BadNumber, value, turned, LAMP, value, None)
        for value in ODD + TRUTHS + (-1, 4, 10 ** 40, (0,)):
            self.refuses_itself(BadNumber, value, turned, LAMP, 1, value)
        self.refuses(BadNumber, 5, turned, LAMP, 5, 7)
        self.refuses(BadMachine, (0,), turned, ((1,), ((0,),), ((),)), 5, 7)


class TestWithWay(Case):
    def test_by_hand(self):
        self.assertEqual(self.same_again(with_way, LASSO, 0, 2), ((0,), ((1, 2), (2,), (1,), (0, 3)), LASSO[2]))
        self.assertEqual(self.same_again(with_way, LASSO, 1, 0), ((0,), ((1,), (0, 2), (1,), (0, 3)), LASSO[2]))
        self.assertEqual(with_way(LASSO, 3, 2), ((0,), ((1,), (2,), (1,), (0, 2, 3)), LASSO[2]))
        self.assertEqual(with_way(LASSO, 1, 1), ((0,), ((1,), (1, 2), (1,), (0, 3)), LASSO[2]))

    def test_a_way_that_is_there(self):
        self.assertEqual(self.same_again(with_way, LASSO, 0, 1), LASSO)
        self.assertEqual(with_way(ALONE, 0, 0), ALONE)
        for one, other in itertools.product(range(3), repeat=2):
            self.assertEqual(with_way(OPEN, one, other), OPEN)

    def test_all(self):
        for machine in MACHINES + tuple(some_machines(223, 30)):
            for one, other in itertools.product(range(len(machine[2])), repeat=2):
                told = with_way(machine, one, other)
                self.assertEqual(told, plain_with_way(machine, one, other))
                self.assertEqual(need_machine(told), told)
                self.assertEqual(told == machine, other in machine[1][one])

    def test_wrong_numbers(self):
        for value in ODD + TRUTHS + (-1, 2, 8, 10 ** 40, -(10 ** 40), (0,)):
            self.refuses_itself(BadNumber, value, with_way, LAMP, value, 0)
            self.refuses_itself(BadNumber, value, with_way, LAMP, value, None)
            self.refuses_itself(BadNumber, value, with_way, LAMP, 1, value)
        self.refuses(BadNumber, 5, with_way, LAMP, 5, 7)
        self.refuses(BadMachine, (0,), with_way, ((1,), ((0,),), ((),)), 5, 7)


class TestTouched(Case):
    def test_by_hand(self):
        self.assertEqual(self.same_again(touched, ALONE, A), ((0, 0),))
        self.assertEqual(self.same_again(touched, ALONE, ("or", A, B)), ())
        self.assertEqual(touched(ALONE, ("and", A, B)), ((0, 0), (0, 1)))
        self.assertEqual(touched(ALONE, joined(A, B, C, D)), ((0, 0), (0, 1), (0, 2), (0, 3)))
        # A mark at 1 or 2 asks for an answer right behind; what asks at 0 is answered.
        self.assertEqual(self.same_again(touched, QUICK, ANSWERED), ((1, 0), (1, 1), (2, 0)))
        self.assertEqual(touched(LASSO, ("no", A)), ((0, 0),))
        self.assertEqual(touched(LASSO, ("always", ("ever", B))), ((2, 1),))
        self.assertEqual(touched(LASSO, ("next", ("always", A))), ((1, 0), (2, 0)))
        self.assertEqual(touched(OPEN, TRUE), ())

    def test_a_wish_that_is_not_kept(self):
        for machine, wish in ((LAMP, ("ever", A)), (ALONE, ("no", A)), (OPEN, FALSE)):
            self.assertEqual(self.same_again(touched, machine, wish), ())
            self.assertEqual(self.same_again(free_ways, machine, wish), ())
            self.assertEqual(fewest_wishes(machine, (wish,)), ())
            self.assertEqual(untouched(machine, (wish,)), plain_reached_pairs(machine))

    def test_where_no_run_comes(self):
        # 3 asks and is not answered, but no run comes there.
        self.assertEqual(touched(QUICK, ANSWERED), ((1, 0), (1, 1), (2, 0)))
        self.assertTrue(all(standing != 3 for standing, _ in untouched(QUICK, (TRUE,))))
        self.assertEqual(untouched(QUICK, (TRUE,)), tuple(itertools.product((0, 1, 2), range(4))))

    def test_against_the_words(self):
        count = 0
        for machine, wish in kept_pairs(225, 60) + list(zip(some_machines(226, 30), some_wishes(227, 30))):
            told = self.same_again(touched, machine, wish)
            self.assertEqual(told, plain_touched(machine, wish))
            count += told != ()
        self.assertGreater(count, 30)

    def test_wrong_arguments(self):
        self.refuses(BadMachine, (1, 0), touched, ((0,), ((1,),), ((),)), None)
        self.refuses(BadWish, (2,), touched, LAMP, ("till", A, ("till", A)))
        self.refuses(BadMachine, (1, 0), free_ways, ((0,), ((1,),), ((),)), None)
        self.refuses(BadWish, (2,), free_ways, LAMP, ("till", A, ("till", A)))


class TestSeveralWishes(Case):
    def test_untouched_by_hand(self):
        self.assertEqual(self.same_again(untouched, ALONE, (A, B)), ((0, 2), (0, 3)))
        self.assertEqual(untouched(ALONE, (A, B, C, D)), ())
        self.assertEqual(untouched(ALONE, (("or", A, B),)), ((0, 0), (0, 1), (0, 2), (0, 3)))
        # A wish that is not kept touches nothing.
        self.assertEqual(untouched(ALONE, (A, ("no", B))), ((0, 1), (0, 2), (0, 3)))

    def test_fewest_by_hand(self):
        for machine, wishes, told in (
            (ALONE, (A,), (0,)), (ALONE, (TRUE,), ()), (ALONE, (TRUE, FALSE, ("or", A, B)), ()),
            (ALONE, (A, B), (0, 1)), (ALONE, (A, B, ("and", A, B)), (2,)), (ALONE, (A, A), (0,)),
            (ALONE, (TRUE, A, ("and", A, A)), (1,)), (ALONE, (A, B, C, ("and", A, B), ("and", B, C)), (0, 4)),
            (ALONE, (("and", A, B), ("and", B, C), ("and", C, D), ("and", D, A)), (0, 2)),
            (ALONE, (A, ("and", B, C), D, ("and", A, D), B, ("and", C, A)), (1, 3)),
            (ALONE, (A, B, C, D, ("no", A), ("no", B)), (0, 1, 2, 3)),
            (ALONE, (B, ("and", A, B), ("and", C, D), ("and", A, C), ("and", B, D)), (1, 2)),
            (LAMP, (("always", A), A, TRUE), ()),
            # The smaller lot, though a greater one comes ahead of it as tuples are ordered.
            (ALONE, (A, B, ("and", C, D), joined(A, B, C, D)), (3,)),
        ):
            self.assertEqual(self.same_again(fewest_wishes, machine, wishes), told, wishes)

    def test_against_the_words(self):
        chance = random.Random(229)
        pool = [A, B, C, D, ("and", A, B), ("and", B, C), ("and", C, D), ("or", A, B), ("ever", D), ("no", A)]
        sizes = {}
        for machine in [ALONE, LASSO, EIGHT, ALONE] * 8 + some_machines(231, 20, 3):
            wishes = tuple(chance.choice(pool) for _ in range(chance.randrange(1, 7)))
            pairs = [set(plain_touched(machine, wish)) for wish in wishes]
            wanted = set().union(*pairs)
            lots = [
                lot for many in range(len(wishes) + 1) for lot in itertools.combinations(range(len(wishes)), many)
                if set().union(*(pairs[number] for number in lot)) == wanted
            ]
            told = self.same_again(fewest_wishes, machine, wishes)
            self.assertEqual(told, lots[0])
            sizes[len(told)] = sizes.get(len(told), 0) + 1
            others = tuple(pair for pair in plain_reached_pairs(machine) if pair not in wanted)
            self.assertEqual(self.same_again(untouched, machine, wishes), others)
        self.assertTrue({0, 1, 2, 3} <= set(sizes))

    def test_no_wishes(self):
        for call in (untouched, fewest_wishes):
            self.refuses(BadWish, (), call, ALONE, ())
            self.refuses(BadWish, (), call, ALONE, (A,) * 7)
            self.refuses(BadWish, (), call, ALONE, [A])
            call(ALONE, (A,) * 6)
            for value in ODD + TRUTHS + (0,):
                self.refuses(BadWish, (), call, ALONE, value)
                self.refuses(BadWish, (1,), call, ALONE, (A, value, None))
            self.refuses(BadWish, (1, 1), call, ALONE, (A, ("no", None)))
            self.refuses(BadWish, (0,), call, ALONE, (nested("next", 6, A), None))
            self.refuses(BadMachine, (), call, None, None)


class TestFreeWays(Case):
    def test_by_hand(self):
        # Behind 0 the answer has to come; 1 and 2 may lead anywhere but to 3.
        self.assertEqual(self.same_again(free_ways, QUICK, ANSWERED), ((1, 1), (2, 1)))
        told = ((0, 0), (0, 2), (0, 3), (1, 0), (1, 1), (1, 3), (2, 0), (2, 2), (2, 3))
        self.assertEqual(self.same_again(free_ways, LASSO, ("no", A)), told)
        self.assertEqual(free_ways(LASSO, ("always", ("ever", A))), ((0, 2), (1, 0), (1, 1), (2, 0), (2, 2)))
        self.assertEqual(free_ways(OPEN, TRUE), ())
        self.assertEqual(free_ways(ALONE, A), ())

    def test_against_the_words(self):
        count = 0
        for machine, wish in kept_pairs(233, 50) + list(zip(some_machines(235, 30), some_wishes(236, 30))):
            told = self.same_again(free_ways, machine, wish)
            self.assertEqual(told, plain_free_ways(machine, wish))
            count += told != ()
        self.assertGreater(count, 20)

    def test_small_wishes_that_are_always_so(self):
        for wish in small_wishes(2):
            if keeps(OPEN, wish) and keeps(LASSO, wish):
                missing = [
                    (one, other) for one in plain_reached(LASSO) for other in range(4) if other not in LASSO[1][one]
                ]
                self.assertLessEqual(set(free_ways(LASSO, wish)), set(missing))


if __name__ == "__main__":
    unittest.main()
