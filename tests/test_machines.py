"""Machines (point 10), their runs (point 11), and which value of these is refused, and how."""

import itertools
import unittest

from idlewishes.errors import BadMachine, BadRun
from idlewishes.machines import is_run, need_machine, need_run, reached, shortest_run
from tests.samples import (
    AGREEING, ALONE, EIGHT, FAR, GREAT, GRUDGING, LASSO, MACHINES, ODD, OPEN, TRUTHS, Case,
    plain_is_run, plain_reached, plain_runs, some_machines,
)

# A machine of two standings, to be spoiled in one place after another.
STARTS = (0,)
WAYS = ((0, 1), (0,))
MARKS = ((), (0, 3))


class TestMachines(Case):
    def wrong(self, path, *machine):
        """The machine of these things is refused with this path."""
        self.refuses(BadMachine, path, need_machine, tuple(machine))

    def test_machine_itself(self):
        for machine in MACHINES + ((STARTS, WAYS, MARKS),):
            self.assertIs(need_machine(machine), machine)
            self.assertIs(self.same_again(need_machine, machine), machine)
        for machine in some_machines(1, 200):
            self.assertIs(need_machine(machine), machine)

    def test_no_triple(self):
        whole = (STARTS, WAYS, MARKS)
        for value in ODD + TRUTHS + FAR + ((), (0, 1, 2, 3), list(whole), (STARTS,)):
            self.refuses(BadMachine, (), need_machine, value)
        self.wrong(())
        self.wrong((), STARTS, WAYS)
        self.wrong((), STARTS, WAYS, MARKS, ())
        self.wrong((), STARTS, WAYS, MARKS, None)

    def test_number_of_standings(self):
        self.wrong((2,), (0,), (), ())
        self.assertEqual(need_machine(ALONE), ALONE)
        self.assertEqual(need_machine(EIGHT), EIGHT)
        nine = ((0,), tuple((0,) for _ in range(9)), tuple(() for _ in range(9)))
        self.wrong((2,), *nine)
        eight = tuple(part[:8] for part in nine)
        self.assertIs(need_machine(eight), eight)

    def test_marks_no_tuple(self):
        for value in ODD + TRUTHS + FAR + ([(), ()],):
            self.wrong((2,), STARTS, WAYS, value)

    def test_marks_of_a_standing(self):
        good = ((), (0,), (3,), (0, 1, 2, 3), (0, 3), (1, 2))
        for there in good:
            machine = ((0,), ((0,),), (there,))
            self.assertIs(need_machine(machine), machine)
        bad = ODD + TRUTHS + FAR + (
            (-1,), (4,), (0, 4), (-1, 0), (0, 0), (1, 0), (0, 2, 1), (3, 3), (0, 1, 1, 2),
            (True,), (False,), (0, True), (None,), ("0",), (GREAT,), (-GREAT,), [0],
            (0, 1, 2, 3, 4), ((0,),), ([],), (AGREEING,), (GRUDGING,), (0, AGREEING),
        )
        for there in bad:
            self.wrong((2, 0), STARTS, WAYS, (there, ()))
            self.wrong((2, 1), STARTS, WAYS, ((), there))
            self.wrong((2, 0), STARTS, WAYS, (there, there))

    def bad_rows(self):
        """What is no ascending tuple of one or more standings, of two."""
        return ODD + TRUTHS + FAR + (
            (), (-1,), (2,), (0, 2), (-1, 0), (0, 0), (1, 0), (1, 1), (0, 1, 1),
            (True,), (False,), (0, True), (False, 1), (None,), ("0",), (GREAT,), (-GREAT,), (0, GREAT),
            [0], [0, 1], (0, 1, 2), ((0,),), ([],), (AGREEING,), (GRUDGING,), (0, AGREEING),
        )

    def test_starts(self):
        for starts in ((0,), (1,), (0, 1)):
            machine = (starts, WAYS, MARKS)
            self.assertIs(need_machine(machine), machine)
        for starts in self.bad_rows():
            self.wrong((0,), starts, WAYS, MARKS)

    def test_ways_no_tuple_of_so_many(self):
        for value in ODD + TRUTHS + FAR + ((), (WAYS[0],), WAYS + ((0,),), list(WAYS)):
            self.wrong((1,), STARTS, value, MARKS)
        self.wrong((1,), (0,), ((0,), (0,)), ((),))

    def test_ways_of_a_standing(self):
        for after in ((0,), (1,), (0, 1)):
            machine = (STARTS, (after, (0,)), MARKS)
            self.assertIs(need_machine(machine), machine)
        for after in self.bad_rows():
            self.wrong((1, 0), STARTS, (after, (0,)), MARKS)
            self.wrong((1, 1), STARTS, ((0,), after), MARKS)
            self.wrong((1, 0), STARTS, (after, after), MARKS)

    def test_highest_standing(self):
        ring = EIGHT[1]
        for spoiled in (ring[:7] + ((8,),), ring[:7] + ((7, 8),)):
            self.wrong((1, 7), (0,), spoiled, EIGHT[2])
        self.wrong((0,), (8,), ring, EIGHT[2])
        good = ((7,), ring[:7] + ((6, 7),), EIGHT[2])
        self.assertIs(need_machine(good), good)

    def test_order_of_what_is_wrong(self):
        # Each row spoils one thing; of two, the one further ahead is told.
        spoils = [
            ((2,), 2, ()),
            ((2, 0), 2, ((4,), ())),
            ((2, 1), 2, ((), (4,))),
            ((0,), 0, ()),
            ((1,), 1, ((0,),)),
            ((1, 0), 1, ((), (0,))),
            ((1, 1), 1, ((0,), ())),
        ]
        for (path, place, spoiled), (_, other, also) in itertools.combinations(spoils, 2):
            machine = [STARTS, WAYS, MARKS]
            machine[other] = also
            machine[place] = spoiled
            self.wrong(path, *machine)
        self.wrong((2, 0), STARTS, WAYS, ((4,), (4,)))
        self.wrong((1, 0), STARTS, ((), ()), MARKS)
        self.wrong((2,), None, None, None)
        self.wrong((0,), None, None, MARKS)
        self.wrong((2, 1), None, (None,), ((), None))


class TestReached(Case):
    def test_by_hand(self):
        self.assertEqual(reached(OPEN), (0, 1, 2))
        self.assertEqual(reached(ALONE), (0,))
        self.assertEqual(reached(LASSO), (0, 1, 2))
        self.assertEqual(reached(EIGHT), (0, 1, 2, 3, 4, 5, 6, 7))
        apart = ((3,), ((0,), (1, 2), (1,), (2, 3), (0,)), ((),) * 5)
        self.assertEqual(reached(apart), (1, 2, 3))
        self.assertEqual(reached(((0, 4),) + apart[1:]), (0, 4))

    def test_plainly(self):
        for machine in some_machines(2, 300):
            told = self.same_again(reached, machine)
            self.assertIs(told.__class__, tuple)
            self.assertEqual(told, plain_reached(machine))


class TestRuns(Case):
    def good(self, machine, *run):
        self.assertIs(is_run(machine, run), True)
        self.assertIs(need_run(machine, run), run)

    def bad(self, machine, value):
        self.assertIs(is_run(machine, value), False)
        self.refuses_itself(BadRun, value, need_run, machine, value)

    def test_runs(self):
        self.good(ALONE, (), (0,))
        self.good(ALONE, (0,), (0,))
        self.good(ALONE, (0, 0, 0), (0, 0))
        self.good(LASSO, (0,), (1, 2))
        self.good(LASSO, (0, 1), (2, 1))
        self.good(LASSO, (0, 1, 2), (1, 2, 1, 2))
        self.good(EIGHT, (), (0, 1, 2, 3, 4, 5, 6, 7))
        self.good(EIGHT, (7, 0), (1, 2, 3, 4, 5, 6, 7, 0))
        self.good(OPEN, (2, 0, 0), (1,))

    def test_pairs(self):
        for value in ODD + TRUTHS + FAR + (
            (), ((0,),), ((), (0,), ()), [(), (0,)], ([], (0,)), ((), [0]), ((0,), [0]), ([0], (0,)),
            ((), ()), ((0,), ()), (None, (0,)), ((), None), ("", (0,)), ((), "0"), (b"", (0,)),
            ((), b"\x00"), ((), {0: 0}), ({}, (0,)), (0, 0), ((), 0), ((), range(1)), ((0,), (0,), (0,)),
        ):
            self.bad(ALONE, value)

    def test_standings(self):
        for standing in ODD + TRUTHS + (-1, 1, GREAT, -GREAT, (), (0,)):
            self.bad(ALONE, ((), (standing,)))
            self.bad(ALONE, ((standing,), (0,)))
            self.bad(ALONE, ((0,), (0, standing)))
            self.bad(ALONE, ((0, standing), (0,)))
        # A standing of OPEN more, and what equals a standing.
        self.bad(OPEN, ((), (3,)))
        self.bad(OPEN, ((), (True,)))
        self.bad(OPEN, ((0, False), (2,)))
        # From the end it would be a standing.
        self.bad(OPEN, ((0, -1), (2,)))

    def test_first_is_a_start(self):
        self.bad(LASSO, ((), (1, 2)))
        self.bad(LASSO, ((1,), (2, 1)))
        self.bad(LASSO, ((3,), (3,)))
        self.bad(EIGHT, ((1, 2, 3, 4, 5, 6), (7, 0, 1, 2, 3, 4, 5, 6)))

    def test_each_step_is_a_way(self):
        self.bad(LASSO, ((0,), (2, 1)))
        self.bad(LASSO, ((0, 1, 1), (2, 1)))
        self.bad(LASSO, ((0, 1), (1, 2)))
        self.bad(LASSO, ((0, 1, 2), (2, 1)))
        self.bad(LASSO, ((0, 1), (2, 2)))
        self.bad(LASSO, ((0, 0), (1, 2)))

    def test_ring_comes_back(self):
        self.bad(LASSO, ((0,), (1,)))
        self.bad(LASSO, ((0,), (1, 2, 1)))
        self.bad(LASSO, ((), (0, 1, 2)))
        self.bad(LASSO, ((), (0, 1)))
        self.bad(EIGHT, ((), (0,)))

    def test_most_standings(self):
        self.good(ALONE, (), (0,) * 2000)
        self.good(ALONE, (0,) * 1999, (0,))
        self.good(ALONE, (0,) * 1000, (0,) * 1000)
        self.bad(ALONE, ((), (0,) * 2001))
        self.bad(ALONE, ((0,) * 2000, (0,)))
        self.bad(ALONE, ((0,) * 1000, (0,) * 1001))
        self.good(LASSO, (0,), (1, 2) * 999)
        self.good(LASSO, (0, 1), (2, 1) * 999)
        self.bad(LASSO, ((0,), (1, 2) * 1000))

    def test_plainly(self):
        for machine in some_machines(3, 25, 3):
            many = len(machine[2])
            for size in range(1, 5):
                for row in itertools.product(range(many), repeat=size):
                    for at in range(size):
                        run = (row[:at], row[at:])
                        self.assertIs(is_run(machine, run), plain_is_run(machine, run))

    def test_same_again(self):
        self.assertIs(self.same_again(is_run, LASSO, ((0,), (1, 2))), True)
        self.assertIs(self.same_again(is_run, LASSO, [[0], [1, 2]]), False)
        self.assertEqual(self.same_again(need_run, LASSO, ((0,), (1, 2))), ((0,), (1, 2)))


class TestShortestRun(Case):
    def test_by_hand(self):
        self.assertEqual(shortest_run(ALONE), ((), (0,)))
        self.assertEqual(shortest_run(OPEN), ((), (0,)))
        self.assertEqual(shortest_run(LASSO), ((0,), (1, 2)))
        self.assertEqual(shortest_run(EIGHT), ((), (0, 1, 2, 3, 4, 5, 6, 7)))

    def test_fewest_go_ahead_of_least(self):
        # From 0 the rings are longer than the one of 2 alone.
        machine = ((0, 2), ((1,), (0,), (2,)), ((),) * 3)
        self.assertEqual(shortest_run(machine), ((), (2,)))

    def test_least_of_the_shortest(self):
        # ((0,), (1,)) has as few standings, but () is less than (0,).
        machine = ((0, 2), ((1,), (1,), (3,), (2,)), ((),) * 4)
        self.assertEqual(shortest_run(machine), ((), (2, 3)))
        # (0,) is less than (0, 1), though its RING is longer.
        machine = ((0,), ((1,), (2,), (1, 2)), ((),) * 3)
        self.assertEqual(shortest_run(machine), ((0,), (1, 2)))
        # (0, 1) is less than (2,), though it is longer.
        machine = ((0, 2), ((1,), (3,), (4,), (3,), (5,), (4,)), ((),) * 6)
        self.assertEqual(shortest_run(machine), ((0, 1), (3,)))
        machine = ((0,), ((1, 2), (3,), (4,), (3,), (2,)), ((),) * 5)
        self.assertEqual(shortest_run(machine), ((0,), (2, 4)))
        machine = ((0, 1), ((2,), (3,), (2,), (3,)), ((),) * 4)
        self.assertEqual(shortest_run(machine), ((0,), (2,)))

    def test_longest_of_the_shortest(self):
        row = ((0,), ((1,), (2,), (3,), (4,), (5,), (6,), (7,), (7,)), ((),) * 8)
        self.assertEqual(shortest_run(row), ((0, 1, 2, 3, 4, 5, 6), (7,)))

    def test_plainly(self):
        for machine in some_machines(4, 300, 4):
            best = next(plain_runs(machine, 4))
            alike = [
                run for run in plain_runs(machine, len(best[0] + best[1]))
                if len(run[0] + run[1]) == len(best[0] + best[1])
            ]
            self.assertEqual(self.same_again(shortest_run, machine), min(alike))


if __name__ == "__main__":
    unittest.main()
