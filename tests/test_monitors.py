"""What begins of runs tell (points 61 and 62)."""

import random
import unittest

from idlewishes.errors import BadMachine, BadNumber, BadRow, BadWish
from idlewishes.keeping import is_kept, keeps
from idlewishes.monitors import count_rows, is_always_told, shortest_row, verdict
from idlewishes.values import keeps_run
from tests.plain import PlainTeller, plain_begins_of, plain_unrolled
from tests.samples import (
    A, AGREEING, ALONE, B, EIGHT, FALSE, GRUDGING, LASSO, MACHINES, ODD, OPEN, TRUE, TRUTHS, Case, joined, lively,
    nested, plain_runs, small_wishes, some_machines, some_wishes,
)

C = ("mark", 2)
WORDS = ("kept", "broken", "open")
# A lamp: 0 off, 1 on (mark 0); and a lamp that stays on when it is on.
LAMP = ((0,), ((0, 1), (0, 1)), ((), (0,)))
STAYS = ((0,), ((0, 1), (1,)), ((), (0,)))
# 0 nobody asks, 1 a request (mark 0), 2 the answer (mark 1).
HOUSE = ((0,), ((0, 1), (1, 2), (0,)), ((), (0,), (1,)))
ANSWERED = ("always", ("or", ("no", A), ("ever", B)))
# 0 shut, 1 the key (mark 0), 2 in (mark 1).
DOOR = ((0,), ((0, 1, 2), (1, 2), (0, 2)), ((), (0,), (1,)))
NOT_AHEAD = ("or", ("till", ("no", B), A), ("always", ("no", B)))


def samples(seed, many):
    """So many pairs of a machine and a wish, most of them lively ones."""
    return lively(seed, many, keeps) + list(zip(some_machines(seed, many // 3, 4), some_wishes(seed, many // 3)))


class TestVerdict(Case):
    def tells(self, machine, wish, row):
        """The word of a row, as a tuple and as a list."""
        word = self.same_again(verdict, machine, wish, tuple(row))
        self.assertEqual(self.same_again(verdict, machine, wish, list(row)), word)
        return word

    def test_no_standings(self):
        for machine, wish, word in (
            (LAMP, TRUE, "kept"), (LAMP, FALSE, "broken"), (LAMP, A, "broken"), (LAMP, ("no", A), "kept"),
            (LAMP, ("ever", A), "open"), (OPEN, A, "open"), (ALONE, ("always", A), "kept"),
            (LASSO, ("next", A), "kept"), (LASSO, ("ever", C), "broken"), (HOUSE, ANSWERED, "open"),
        ):
            self.assertEqual(self.tells(machine, wish, ()), word, wish)

    def test_eventually(self):
        self.assertEqual(self.tells(LAMP, ("ever", A), (0, 0, 0)), "open")
        self.assertEqual(self.tells(LAMP, ("ever", A), (0, 0, 1)), "kept")
        self.assertEqual(self.tells(LAMP, ("ever", A), (0, 0, 1, 0, 0)), "kept")
        self.assertEqual(self.tells(LAMP, ("always", ("no", A)), (0, 0)), "open")
        self.assertEqual(self.tells(LAMP, ("always", ("no", A)), (0, 1)), "broken")
        self.assertEqual(self.tells(LAMP, ("always", ("no", A)), (0, 1, 0)), "broken")
        self.assertEqual(self.tells(STAYS, ("ever", ("always", A)), (0,)), "open")
        self.assertEqual(self.tells(STAYS, ("ever", ("always", A)), (0, 1)), "kept")
        for many in range(1, 8):
            self.assertEqual(self.tells(LAMP, ("ever", ("always", A)), (0, 1) * many), "open")

    def test_what_the_machine_makes_so(self):
        # Nothing but the machine tells that the mark never comes again.
        once = ((0,), ((0, 1), (2,), (2,)), ((0,), (), ()))
        self.assertEqual(self.tells(once, ("ever", ("always", ("no", A))), (0, 0)), "open")
        self.assertEqual(self.tells(once, ("ever", ("always", ("no", A))), (0, 1)), "kept")
        self.assertEqual(self.tells(once, ("always", A), (0, 1)), "broken")
        self.assertEqual(self.tells(once, ("next", ("next", A)), (0, 1)), "broken")
        self.assertEqual(self.tells(LASSO, ("next", ("next", B)), (0,)), "kept")

    def test_next(self):
        wish = ("next", ("next", A))
        for row, word in (
            ((0,), "open"), ((0, 0), "open"), ((0, 1), "open"), ((0, 0, 1), "kept"), ((0, 1, 0), "broken"),
            ((0, 1, 0, 1), "broken"), ((0, 0, 1, 0), "kept"),
        ):
            self.assertEqual(self.tells(LAMP, wish, row), word)

    def test_door_and_house(self):
        self.assertEqual(self.tells(DOOR, NOT_AHEAD, (0, 0)), "open")
        self.assertEqual(self.tells(DOOR, NOT_AHEAD, (0, 2)), "broken")
        self.assertEqual(self.tells(DOOR, NOT_AHEAD, (0, 1)), "kept")
        self.assertEqual(self.tells(DOOR, NOT_AHEAD, (0, 1, 2, 0, 2)), "kept")
        for row in ((0,), (0, 1), (0, 1, 1), (0, 1, 2), (0, 1, 2, 0)):
            self.assertEqual(self.tells(HOUSE, ANSWERED, row), "open")

    def test_two_thousand_standings(self):
        self.assertEqual(self.tells(LAMP, ("ever", A), (0,) * 2000), "open")
        self.assertEqual(self.tells(LAMP, ("ever", A), (0,) * 1999 + (1,)), "kept")
        self.assertEqual(self.tells(LAMP, ("always", ("or", A, ("next", A))), (0, 1) * 1000), "open")
        self.assertEqual(self.tells(LAMP, ("always", ("or", A, ("next", A))), (0, 1) * 999 + (0, 0)), "broken")
        for row in ((0,) * 2001, [0] * 2001, (None,) * 2001, [9] * 3000):
            self.refuses(BadRow, None, verdict, LAMP, TRUE, row)

    def test_no_rows(self):
        for value in ODD + TRUTHS + (0, 1, "0", {0: 1}, range(1)):
            if not isinstance(value, list):
                self.refuses(BadRow, None, verdict, LAMP, TRUE, value)
        for value in ODD + TRUTHS:
            self.refuses(BadRow, 0, verdict, OPEN, TRUE, [value])
            self.refuses(BadRow, 2, verdict, OPEN, TRUE, (0, 1, value, None))

    def test_wrong_standings(self):
        for row, number in (
            ((1,), 0), ((0, 0, 2), 2), ((0, 2, 2), 1), ((-1,), 0), ((0, -1), 1), ((0, 10 ** 40), 1), ((3,), 0),
            ((0, 1, 4, 9), 2), (((0,),), 0), ((0, (0,)), 1), ((0, True), 1), ((False,), 0), ((0, None, None), 1),
            ((0, 1, "0"), 2), ((0, AGREEING), 1), ((GRUDGING, 0), 0), ((0, 0, GRUDGING), 2), ((0, 1, 0, [0]), 3),
        ):
            self.refuses(BadRow, number, verdict, LAMP, TRUE, row)
            self.refuses(BadRow, number, verdict, LAMP, TRUE, list(row))
        self.refuses(BadRow, 1, verdict, LASSO, TRUE, (0, 2))
        self.refuses(BadRow, 3, verdict, LASSO, TRUE, (0, 1, 2, 3))
        self.refuses(BadRow, 1, verdict, EIGHT, TRUE, (7, 6))
        verdict(EIGHT, TRUE, (7, 0))

    def test_wrong_arguments_in_order(self):
        self.refuses(BadMachine, (), verdict, None, None, None)
        self.refuses(BadWish, (), verdict, LAMP, None, None)
        self.refuses(BadRow, None, verdict, LAMP, A, None)

    def test_against_lots_of_lots(self):
        words = {word: 0 for word in WORDS}
        for machine, wish in samples(261, 45):
            plain = PlainTeller(machine, wish)
            for size in range(4):
                for row in plain_begins_of(machine, size):
                    word = verdict(machine, wish, row)
                    self.assertEqual(word, plain.word(row), (machine, wish, row))
                    words[word] += 1
        self.assertGreater(min(words.values()), 100)

    def test_against_machines_that_go_along_the_row(self):
        chance = random.Random(263)
        for machine, wish in samples(264, 90):
            row = chance.choice(plain_begins_of(machine, chance.randrange(1, 6)))
            told = plain_unrolled(machine, row)
            word = "open"
            if is_kept(told, wish):
                word = "kept"
            elif is_kept(told, ("no", wish)):
                word = "broken"
            self.assertEqual(verdict(machine, wish, row), word, (machine, wish, row))

    def test_against_short_runs(self):
        for machine, wish in samples(265, 60):
            for ahead, ring in plain_runs(machine, 3):
                kept = keeps_run(machine, wish, (ahead, ring))
                for row in (ahead, ahead + ring, ahead + ring + ring):
                    self.assertNotEqual(verdict(machine, wish, row), "broken" if kept else "kept")

    def test_what_is_told_stays_so(self):
        chance = random.Random(266)
        for machine, wish in samples(267, 60):
            row = ()
            told = "open"
            for _ in range(8):
                word = verdict(machine, wish, row)
                self.assertIn(word, WORDS)
                if told != "open":
                    self.assertEqual(word, told)
                told = word
                row += (chance.choice(machine[1][row[-1]] if row else machine[0]),)


class TestShortestRow(Case):
    def test_by_hand(self):
        for machine, wish, rows in (
            (LAMP, TRUE, ((), None, None)), (LAMP, FALSE, (None, (), None)), (LAMP, ("ever", A), ((0, 1), None, ())),
            (LAMP, ("next", A), ((0, 1), (0, 0), ())), (STAYS, ("ever", ("always", A)), ((0, 1), None, ())),
            (LAMP, ("ever", ("always", A)), (None, None, ())), (DOOR, NOT_AHEAD, ((0, 1), (0, 2), ())),
            (OPEN, A, ((1,), (0,), ())), (OPEN, ("no", A), ((0,), (1,), ())), (OPEN, B, ((2,), (0,), ())),
            (OPEN, ("or", A, ("next", B)), ((1,), (0, 0), ())), (OPEN, ("next", ("or", A, B)), ((0, 1), (0, 0), ())),
            (EIGHT, ("ever", ("and", A, ("mark", 3))), ((), None, None)),
            (EIGHT, A, (None, (), None)), (EIGHT, ("and", ("mark", 1), C), ((7,), (0,), ())),
        ):
            for word, row in zip(WORDS, rows):
                self.assertEqual(self.same_again(shortest_row, machine, wish, word), row, (wish, word))

    def test_least_of_several(self):
        # Both 0 and 1 are starts; the word comes behind three standings, the least row is not by the first start.
        machine = ((0, 1), ((2,), (3,), (2, 4), (4, 5), (4,), (5,)), ((), (), (), (), (0,), (0,)))
        self.assertEqual(shortest_row(machine, ("ever", A), "kept"), (1,))
        self.assertEqual(shortest_row(machine, ("next", ("next", A)), "kept"), (1,))
        self.assertEqual(shortest_row(machine, ("ever", A), "open"), ())
        fork = ((0,), ((1, 2), (3, 4), (3, 4), (3,), (4,)), ((), (), (), (), (0,)))
        self.assertEqual(shortest_row(fork, ("ever", A), "kept"), (0, 1, 4))
        self.assertEqual(shortest_row(fork, ("ever", A), "broken"), (0, 1, 3))

    def test_a_long_row(self):
        wish = ("always", ("or", ("no", A), ("next", ("next", ("next", B)))))
        self.assertEqual(shortest_row(OPEN, wish, "broken"), (1, 0, 0, 0))
        self.assertIsNone(shortest_row(OPEN, wish, "kept"))
        # Nothing is told until the ring comes to its last standing.
        ring = ((0,), ((1,), (2,), (3,), (4,), (5,), (6,), (7,), (0, 7)), ((),) * 7 + ((0,),))
        wish = ("ever", ("and", A, ("next", A)))
        self.assertEqual(shortest_row(ring, wish, "kept"), (0, 1, 2, 3, 4, 5, 6, 7, 7))
        self.assertEqual(shortest_row(ring, ("no", wish), "broken"), (0, 1, 2, 3, 4, 5, 6, 7, 7))
        self.assertIsNone(shortest_row(ring, wish, "broken"))

    def test_against_all_rows(self):
        found = {word: 0 for word in WORDS}
        for machine, wish in samples(271, 60):
            plain = PlainTeller(machine, wish)
            for word in WORDS:
                told = self.same_again(shortest_row, machine, wish, word)
                rows = [
                    row for size in range(5) for row in plain_begins_of(machine, size)[:200] if plain.word(row) == word
                ]
                if rows:
                    self.assertEqual(told, rows[0], (machine, wish, word))
                    found[word] += 1
                if told is not None:
                    self.assertEqual(verdict(machine, wish, told), word)
                    self.assertEqual(plain.word(told), word)
        self.assertGreater(min(found.values()), 20)


class TestCountRows(Case):
    def test_by_hand(self):
        for size, kept, broken, left in ((0, 0, 0, 1), (1, 0, 0, 1), (2, 1, 0, 1), (3, 3, 0, 1), (4, 7, 0, 1)):
            told = tuple(self.same_again(count_rows, LAMP, ("ever", A), size, word) for word in WORDS)
            self.assertEqual(told, (kept, broken, left))
        self.assertEqual([count_rows(ALONE, A, size, "kept") for size in (0, 1, 2, 200)], [1, 1, 1, 1])
        self.assertEqual([count_rows(ALONE, A, size, "open") for size in (0, 1, 2, 200)], [0, 0, 0, 0])
        self.assertEqual(count_rows(OPEN, A, 1, "kept"), 1)
        self.assertEqual(count_rows(OPEN, A, 1, "broken"), 2)
        self.assertEqual(count_rows(OPEN, A, 0, "open"), 1)
        self.assertEqual(count_rows(OPEN, A, 3, "kept"), 9)

    def test_great_numbers(self):
        self.assertEqual(count_rows(LAMP, ("ever", A), 200, "kept"), 2 ** 199 - 1)
        self.assertEqual(count_rows(LAMP, ("ever", A), 200, "open"), 1)
        self.assertEqual(count_rows(OPEN, A, 200, "broken"), 2 * 3 ** 199)
        self.assertEqual(count_rows(OPEN, ("next", ("or", A, B)), 200, "broken"), 3 ** 199)
        full = (tuple(range(8)), (tuple(range(8)),) * 8, ((),) * 7 + ((0,),))
        self.assertEqual(count_rows(full, TRUE, 200, "kept"), 8 ** 200)
        self.assertEqual(count_rows(full, ("always", ("no", A)), 200, "open"), 7 ** 200)

    def test_against_all_rows(self):
        for machine, wish in samples(273, 45):
            plain = PlainTeller(machine, wish)
            for size in range(5):
                words = [plain.word(row) for row in plain_begins_of(machine, size)]
                for word in WORDS:
                    self.assertEqual(count_rows(machine, wish, size, word), words.count(word))

    def test_as_many_as_there_are(self):
        for machine, wish in samples(275, 20) + list(zip(MACHINES, (ANSWERED, A, NOT_AHEAD, ("ever", B)))):
            counts = {start: 1 for start in machine[0]}
            for size in range(1, 201):
                if size in (1, 2, 3, 10, 77, 199, 200):
                    told = [self.same_again(count_rows, machine, wish, size, word) for word in WORDS]
                    self.assertEqual(sum(told), sum(counts.values()))
                further = {}
                for now, many in counts.items():
                    for then in machine[1][now]:
                        further[then] = further.get(then, 0) + many
                counts = further

    def test_wrong_sizes(self):
        for value in ODD + TRUTHS + (-1, 201, 10 ** 40, -(10 ** 40), (0,)):
            self.refuses_itself(BadNumber, value, count_rows, LAMP, A, value, "kept")
            # Ahead of the word.
            self.refuses_itself(BadNumber, value, count_rows, LAMP, A, value, None)


class TestWords(Case):
    def test_wrong_words(self):
        values = ODD + TRUTHS + (
            0, 1, "Kept", "kept ", " open", "KEPT", "broke", "told", "kept broken", "k", b"kept", ("kept",), ["open"],
            WORDS, {"open"}, {"open": 1}, "kept\n", "openopen",
        )
        for value in values:
            self.refuses_itself(BadNumber, value, shortest_row, LAMP, A, value)
            self.refuses_itself(BadNumber, value, count_rows, LAMP, A, 3, value)

    def test_in_order(self):
        self.refuses(BadMachine, (), shortest_row, None, None, None)
        self.refuses(BadWish, (), shortest_row, LAMP, None, None)
        self.refuses(BadMachine, (), count_rows, None, None, None, None)
        self.refuses(BadWish, (), count_rows, LAMP, None, None, None)
        self.refuses(BadNumber, 201, count_rows, LAMP, A, 201, "no")
        self.refuses(BadNumber, "no", count_rows, LAMP, A, 200, "no")
        self.refuses(BadMachine, (), is_always_told, None, None)
        self.refuses(BadWish, (1,), is_always_told, LAMP, ("ever", None))


class TestAlwaysTold(Case):
    def test_by_hand(self):
        for machine, wish, told in (
            (LAMP, TRUE, True), (LAMP, FALSE, True), (LAMP, A, True), (LAMP, ("ever", A), True),
            (LAMP, ("always", ("no", A)), True), (LAMP, ("always", ("ever", A)), False),
            (LAMP, ("ever", ("always", A)), False), (STAYS, ("ever", ("always", A)), True),
            (STAYS, ("always", ("ever", A)), True), (ALONE, ("always", ("ever", A)), True),
            (HOUSE, ANSWERED, False), (DOOR, NOT_AHEAD, True), (OPEN, nested("next", 5, A), True),
            (LAMP, ("and", ("ever", A), ("always", ("ever", A))), False),
            # Once the mark is there, the rest does not matter.
            (LAMP, ("or", ("ever", A), ("always", ("ever", A))), True),
            (OPEN, ("or", ("ever", B), ("always", ("ever", A))), True),
            # At first it can be told; but behind the mark 0 it never is.
            (OPEN, ("or", ("and", ("no", A), ("ever", B)), ("always", ("ever", A))), False),
        ):
            self.assertIs(self.same_again(is_always_told, machine, wish), told, (machine, wish))

    def test_told_on_one_side_only(self):
        # From 1 on nothing is ever told; from 2 on it is at once.
        machine = ((0,), ((1, 2), (1, 3), (2,), (1, 3)), ((), (), (1,), (0,)))
        wish = ("or", ("ever", B), ("always", ("ever", A)))
        self.assertIs(is_always_told(machine, wish), False)
        self.assertEqual(shortest_row(machine, wish, "kept"), (0, 2))
        # If 1 leads to 2, too, it can always be told.
        machine = ((0,), ((1, 2), (1, 2, 3), (2,), (1, 3)), ((), (), (1,), (0,)))
        self.assertIs(is_always_told(machine, wish), True)

    def test_where_no_run_comes(self):
        # 1 and 2 would never be told.
        machine = ((0,), ((0,), (1, 2), (1, 2)), ((), (), (0,)))
        self.assertIs(is_always_told(machine, ("always", ("ever", A))), True)

    def test_against_lots_of_lots(self):
        found = {True: 0, False: 0}
        for machine, wish in samples(281, 60) + [
            (machine, ("always", ("ever", wish))) for machine, wish in lively(282, 40, keeps)
            if len(str(wish)) < 60
        ]:
            told = self.same_again(is_always_told, machine, wish)
            self.assertIs(told, PlainTeller(machine, wish).is_always_told(), (machine, wish))
            found[told] += 1
        self.assertGreater(min(found.values()), 12)

    def test_small_wishes(self):
        for wish in small_wishes(2) + small_wishes(3)[::3]:
            self.assertIs(is_always_told(LAMP, wish), PlainTeller(LAMP, wish).is_always_told(), wish)

    def test_great_wishes(self):
        wish = joined(nested("next", 4, A), ("ever", B), ("or", A, B))
        self.assertIs(is_always_told(OPEN, wish), True)
        self.assertIs(is_always_told(EIGHT, ("or", A, ANSWERED)), True)


if __name__ == "__main__":
    unittest.main()
