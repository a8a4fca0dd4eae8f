"""Short runs (point 60)."""

import unittest

from idlewishes.errors import BadMachine, BadPath, BadWish
from idlewishes.idle import interesting_run
from idlewishes.keeping import failing_run, keeps
from idlewishes.machines import is_run, shortest_run
from idlewishes.shortest import shortest_failing, shortest_interesting
from idlewishes.values import keeps_run
from idlewishes.wishes import hardened, paths
from tests.plain import plain_hardened, plain_put, plain_walk
from tests.samples import (
    A, ALONE, B, EIGHT, FALSE, LASSO, MACHINES, OPEN, TRUE, Case, joined, lively, nested, plain_is_run,
    plain_runs, plain_worths, small_wishes, some_machines, some_wishes,
)

C = ("mark", 2)
D = ("mark", 3)
# From 0 on one can go a short ring of two, or a long one of five.
RINGS = ((0,), ((1, 2), (0,), (3,), (4,), (5,), (0,)), ((), (0,), (), (), (), (1,)))


class TestShortest(Case):
    def size(self, machine, wish):
        """How many standings a shortest failing run has, if it is one; None if there is none."""
        run = self.same_again(shortest_failing, machine, wish)
        if run is None:
            self.assertIs(keeps(machine, wish), True)
            self.assertIsNone(failing_run(machine, wish))
            return None
        self.assertIs(is_run(machine, run), True)
        self.assertTrue(plain_is_run(machine, run))
        self.assertFalse(plain_worths(machine, wish, run)[0])
        self.assertIs(keeps_run(machine, wish, run), False)
        size = len(run[0]) + len(run[1])
        self.assertLessEqual(size, sum(len(row) for row in failing_run(machine, wish)))
        return size

    def test_a_wish_that_is_kept(self):
        for machine in MACHINES:
            self.assertIsNone(self.size(machine, TRUE))
            self.assertIsNone(self.size(machine, ("or", C, ("no", C))))
        self.assertIsNone(self.size(ALONE, joined(A, B, C, D)))
        self.assertIsNone(self.size(LASSO, ("always", ("next", A))))

    def test_as_short_as_any_run(self):
        for machine in MACHINES + tuple(some_machines(241, 30)):
            ahead, ring = shortest_run(machine)
            self.assertEqual(self.size(machine, FALSE), len(ahead) + len(ring))

    def test_by_hand(self):
        self.assertEqual(self.size(LASSO, A), 3)
        self.assertEqual(self.size(OPEN, ("no", A)), 1)
        self.assertEqual(self.size(OPEN, ("no", ("ever", A))), 1)
        self.assertEqual(self.size(OPEN, ("no", ("and", ("ever", A), ("ever", B)))), 2)
        self.assertEqual(self.size(OPEN, ("no", ("and", ("always", ("ever", A)), ("always", ("ever", B))))), 2)
        # At first no mark, then one, and then another one.
        wish = ("no", ("and", ("no", ("or", A, B)), ("next", ("and", A, ("next", ("always", B))))))
        self.assertEqual(self.size(OPEN, wish), 3)
        self.assertEqual(self.size(EIGHT, ("ever", ("no", ("ever", C)))), 8)

    def test_rings(self):
        self.assertEqual(self.size(RINGS, FALSE), 2)
        self.assertEqual(self.size(RINGS, ("always", ("ever", A))), 5)
        self.assertEqual(self.size(RINGS, ("no", ("ever", B))), 5)
        # Once round the long ring, and then the short one for ever.
        self.assertEqual(self.size(RINGS, ("or", ("no", ("ever", B)), ("always", ("ever", B)))), 7)
        # Both rings again and again.
        self.assertEqual(self.size(RINGS, ("or", ("ever", ("always", ("no", A))), ("ever", ("always", ("no", B))))), 7)
        # The short ring twice, and then the long one for ever.
        wish = ("no", ("next", ("and", A, ("next", ("next", ("and", A, ("next", ("always", ("no", A)))))))))
        self.assertEqual(self.size(RINGS, wish), 9)

    def test_all_pending_parts(self):
        # A ring in which each of three marks comes, though no standing has two.
        machine = ((0,), ((0, 1), (0, 2), (0, 3), (0,)), ((), (0,), (1,), (2,)))
        wish = ("no", joined(("always", ("ever", A)), ("always", ("ever", C))))
        self.assertEqual(self.size(machine, wish), 4)
        self.assertEqual(self.size(machine, ("no", ("always", ("ever", B)))), 3)
        self.assertEqual(self.size(machine, ("no", ("ever", C))), 4)
        star = ((0,), ((0, 1, 2, 3), (0,), (0,), (0,)), ((), (0,), (1,), (2,)))
        self.assertEqual(self.size(star, wish), 4)
        self.assertEqual(self.size(star, ("no", joined(("ever", A), ("ever", B), ("ever", C)))), 6)

    def test_the_way_and_the_ring_together(self):
        # A near standing has a ring of three; a further one has a ring of one.
        machine = ((0,), ((1, 4), (2,), (3,), (1,), (5,), (5,)), ((), (0,), (0,), (0,), (), (0,)))
        self.assertEqual(self.size(machine, ("no", ("ever", ("always", A)))), 3)
        # Here the way is too long for that.
        machine = ((0,), ((1, 3), (2,), (1,), (4,), (5,), (5,)), ((), (0,), (0,), (), (), (0,)))
        self.assertEqual(self.size(machine, ("no", ("ever", ("always", A)))), 3)

    def test_small_machines_against_all_runs(self):
        sizes = {}
        for machine, wish in lively(243, 300, keeps) + [
            (machine, wish) for machine in some_machines(245, 12, 3) for wish in small_wishes(3)[::23]
        ]:
            told = self.size(machine, wish)
            sizes[told] = sizes.get(told, 0) + 1
            first = next((run for run in plain_runs(machine, 4) if not plain_worths(machine, wish, run)[0]), None)
            if first is not None:
                self.assertEqual(told, len(first[0]) + len(first[1]))
            else:
                self.assertTrue(told is None or told > 4)
        for size in (None, 1, 2, 3):
            self.assertGreater(sizes.get(size, 0), 2, size)

    def test_great_machines(self):
        for machine, wish in zip(some_machines(247, 60), some_wishes(248, 60)):
            self.size(machine, wish)


class TestInteresting(Case):
    def test_each_path(self):
        found = 0
        for machine, wish in lively(251, 20, keeps) + list(zip(some_machines(252, 15, 3), some_wishes(253, 15))):
            for path in paths(wish):
                run = self.same_again(shortest_interesting, machine, wish, path)
                harder = plain_hardened(wish, (path,))
                self.assertEqual(run, shortest_failing(machine, harder))
                self.assertIs(run is None, interesting_run(machine, wish, path) is None)
                if run is not None:
                    self.assertIs(keeps_run(machine, hardened(wish, path), run), False)
                    size = len(run[0]) + len(run[1])
                    shorter = [
                        other for other in plain_runs(machine, min(size - 1, 3))
                        if not plain_worths(machine, harder, other)[0]
                    ]
                    self.assertEqual(shorter, [])
                    found += 1
        self.assertGreater(found, 50)

    def test_by_hand(self):
        house = ((0,), ((0, 1), (2,), (0, 1)), ((), (0,), (1,)))
        wish = ("always", ("or", ("no", A), ("next", B)))
        self.assertIsNone(shortest_failing(house, wish))
        # The request has to come once.
        self.assertEqual(sum(len(row) for row in shortest_interesting(house, wish, (1, 2))), 3)
        # With no request held to be there, nobody asks: the ring of 0.
        self.assertEqual(shortest_interesting(house, wish, (1, 1)), ((), (0,)))
        self.assertEqual(shortest_interesting(house, wish, (1, 1, 1)), ((), (0,)))
        self.assertEqual(shortest_interesting(house, wish, ()), ((), (0,)))
        quiet = ((0,), ((0,), (1, 2), (0,)), ((), (0,), (1,)))
        self.assertIsNone(shortest_interesting(quiet, wish, (1, 2)))
        self.assertIsNone(shortest_interesting(ALONE, ("or", A, B), (1,)))
        self.assertEqual(shortest_interesting(ALONE, ("and", A, B), (1,)), ((), (0,)))

    def test_worst_constants(self):
        # With "true" within "no", with "false" elsewhere.
        wish = ("and", ("no", ("ever", B)), ("ever", A))
        machine = ((0,), ((0, 1), (0,)), ((0,), ()))
        self.assertIsNone(shortest_failing(machine, wish))
        for path, _ in plain_walk(wish):
            run = shortest_interesting(machine, wish, path)
            self.assertEqual(sum(len(row) for row in run), 1, path)
        self.assertIsNone(shortest_failing(machine, plain_put(wish, (1, 1), FALSE)))
        self.assertIsNotNone(shortest_failing(machine, plain_put(wish, (1, 1), TRUE)))

    def test_a_wish_that_is_not_kept(self):
        self.assertEqual(shortest_interesting(LASSO, ("next", ("no", A)), (1,)), ((0,), (1, 2)))

    def test_wrong_arguments(self):
        self.refuses(BadMachine, (), shortest_failing, None, None)
        self.refuses(BadWish, (1,), shortest_failing, LASSO, ("no", None))
        self.refuses(BadWish, (), shortest_failing, LASSO, nested("always", 6))
        self.refuses(BadMachine, (2,), shortest_interesting, ((), (), ()), None, None)
        self.refuses(BadWish, (1,), shortest_interesting, LASSO, ("no", None), (2,))
        self.refuses(BadPath, (2,), shortest_interesting, LASSO, ("no", A), (2,))
        self.refuses(BadPath, (1, 1), shortest_interesting, LASSO, ("no", A), (1, 1))


if __name__ == "__main__":
    unittest.main()
