"""Whether machines keep wishes, and papers on it (points 13, 15 and 16)."""

import random
import unittest

from idlewishes.errors import BadPaper
from idlewishes.keeping import check_keep, failing_run, keep_paper, keeps
from tests.plain import plain_keeps, plain_lots, plain_table_holds, plain_timed, plain_walk
from tests.samples import (
    A, AGREEING, ALONE, B, EIGHT, FALSE, GREAT, GRUDGING, LASSO, MACHINES, ODD, OPEN, TRUE, TRUTHS, Case,
    joined, nested, plain_is_run, plain_runs, plain_worths, small_wishes, some_machines, some_wishes,
)

C = ("mark", 2)

# A house: 0 nobody asks, 1 a request (mark 0), 2 the answer (mark 1).
HOUSE = ((0,), ((0, 1), (1, 2), (0,)), ((), (0,), (1,)))
# The same house, if the answer comes right behind the request.
QUICK = ((0,), ((0, 1), (2,), (0, 1)), ((), (0,), (1,)))
# A lock: 0 shut, 1 the key (mark 0), 2 open (mark 1); and a door that can be open at once.
LOCK = ((0,), ((0, 1), (1, 2), (0, 2)), ((), (0,), (1,)))
LOOSE = ((0,), ((0, 1, 2), (1, 2), (0, 2)), ((), (0,), (1,)))
# A lamp: 0 off, 1 on (mark 0).
LAMP = ((0,), ((0, 1), (0, 1)), ((), (0,)))
# A lamp that blinks, and one that stays on when it is on.
BLINKS = ((0,), ((1,), (0,)), ((), (0,)))
STAYS = ((0,), ((0, 1), (1,)), ((), (0,)))
# Whatever there may be of two marks.
FREE = ((0, 1, 2, 3), ((0, 1, 2, 3),) * 4, ((), (0,), (1,), (0, 1)))

ANSWERED = ("always", ("or", ("no", A), ("ever", B)))
NOT_AHEAD = ("or", ("till", ("no", B), A), ("always", ("no", B)))


def table_of(machine, wish):
    """The table of a paper on a wish that is kept."""
    word, table = keep_paper(machine, wish)
    assert word == "keeps"
    return table


def another_table(chance, table, machine, wish):
    """The table with something else somewhere."""
    timed = len(plain_timed(wish))
    lines = list(table)
    for _ in range(chance.randrange(1, 3)):
        at = chance.randrange(len(lines)) if lines else 0
        line = lines[at] if lines else (0, (), 0, None)
        kind = chance.randrange(6)
        if kind == 0:
            lines[at:at + 1] = [line[:2] + (line[2] + chance.choice((-1, 1, 5)), line[3])]
        elif kind == 1:
            lines[at:at + 1] = [line[:3] + (chance.choice([None, *range(timed)]),)]
        elif kind == 2:
            lines[at:at + 1] = []
        elif kind == 3:
            node = (chance.randrange(len(machine[2])), chance.choice(plain_lots(timed)))
            lines.append(node + (chance.randrange(4), chance.choice([None, *range(timed)])))
        elif kind == 4:
            lines = [(where, lot, 1, spot) for where, lot, rank, spot in lines]
        else:
            lines = [(where, lot, rank + 1, spot) for where, lot, rank, spot in lines]
    if chance.random() < 0.9:
        lines.sort(key=lambda line: line[:2])
    return tuple(lines)


class TestKeeps(Case):
    def kept(self, machine, wish):
        """All that is told of a wish that is kept."""
        self.assertIs(self.same_again(keeps, machine, wish), True)
        self.assertIsNone(self.same_again(failing_run, machine, wish))
        paper = self.same_again(keep_paper, machine, wish)
        self.assertEqual(paper[0], "keeps")
        self.assertEqual(self.same_again(check_keep, machine, wish, paper), "keeps")
        self.assertTrue(plain_table_holds(machine, wish, paper[1]))

    def fails(self, machine, wish):
        """All that is told of a wish that is not kept; the failing run."""
        self.assertIs(self.same_again(keeps, machine, wish), False)
        run = self.same_again(failing_run, machine, wish)
        self.assertTrue(plain_is_run(machine, run))
        self.assertFalse(plain_worths(machine, wish, run)[0])
        self.assertEqual(check_keep(machine, wish, ("fails", run)), "fails")
        paper = self.same_again(keep_paper, machine, wish)
        self.assertEqual(paper[0], "fails")
        self.assertTrue(plain_is_run(machine, paper[1]))
        self.assertFalse(plain_worths(machine, wish, paper[1])[0])
        self.assertEqual(self.same_again(check_keep, machine, wish, paper), "fails")
        return run

    def test_constants_and_marks(self):
        for machine in MACHINES:
            self.kept(machine, TRUE)
            self.fails(machine, FALSE)
            self.kept(machine, ("or", C, ("no", C)))
        self.kept(ALONE, joined(A, B, C, ("mark", 3)))
        self.fails(LASSO, A)
        self.kept(LASSO, ("no", A))
        self.fails(OPEN, A)
        self.fails(OPEN, ("no", A))

    def test_house(self):
        self.fails(HOUSE, ANSWERED)
        self.kept(QUICK, ANSWERED)
        self.kept(QUICK, ("always", ("or", ("no", A), ("next", B))))
        self.fails(HOUSE, ("always", ("or", ("no", A), ("next", B))))
        # Who asks without end gets no answer.
        self.kept(HOUSE, ("or", ("ever", ("always", A)), ANSWERED))
        self.kept(HOUSE, ("always", ("or", ("no", A), ("or", ("ever", B), ("always", A)))))
        self.fails(HOUSE, ("ever", A))
        self.kept(HOUSE, ("or", ("always", ("no", A)), ("ever", A)))

    def test_lock_and_key(self):
        self.kept(LOCK, NOT_AHEAD)
        self.fails(LOCK, ("till", ("no", B), A))
        self.fails(LOOSE, NOT_AHEAD)
        self.kept(LOCK, ("no", ("till", ("no", A), B)))
        self.fails(LOOSE, ("no", ("till", ("no", A), B)))
        self.kept(LOCK, ("always", ("or", ("no", A), ("next", ("or", A, B)))))

    def test_lamp(self):
        self.fails(LAMP, ("ever", A))
        self.fails(LAMP, ("always", ("ever", A)))
        self.fails(LAMP, ("ever", ("always", A)))
        self.fails(LAMP, ("or", ("always", ("ever", A)), ("ever", ("always", A))))
        self.kept(LAMP, ("or", ("always", ("ever", A)), ("ever", ("always", ("no", A)))))
        self.kept(BLINKS, ("always", ("ever", A)))
        self.kept(BLINKS, ("always", ("ever", ("no", A))))
        self.kept(BLINKS, ("next", ("next", ("no", A))))
        self.fails(BLINKS, ("ever", ("always", A)))
        self.kept(STAYS, ("or", ("always", ("no", A)), ("ever", ("always", A))))
        self.kept(STAYS, ("always", ("or", ("no", A), ("always", A))))
        self.fails(LAMP, ("always", ("or", ("no", A), ("always", A))))

    def test_within_one_another(self):
        self.kept(FREE, ("or", ("no", ("till", A, B)), ("ever", B)))
        self.fails(FREE, ("or", ("no", ("ever", B)), ("till", A, B)))
        self.kept(FREE, ("or", ("no", ("always", ("till", A, B))), ("always", ("ever", B))))
        self.fails(FREE, ("or", ("no", ("always", ("ever", B))), ("always", ("till", A, B))))
        self.kept(FREE, ("or", ("no", ("next", ("ever", A))), ("ever", ("next", A))))
        self.kept(FREE, ("or", ("no", ("ever", ("next", A))), ("next", ("ever", A))))
        self.fails(FREE, ("or", ("no", ("ever", A)), ("next", ("ever", A))))
        self.kept(FREE, ("or", ("no", ("till", ("till", A, B), B)), ("till", A, B)))
        self.kept(FREE, ("or", ("no", ("ever", ("always", A))), ("always", ("ever", A))))
        self.fails(FREE, ("or", ("no", ("always", ("ever", A))), ("ever", ("always", A))))
        self.kept(FREE, ("or", ("no", ("till", A, ("next", B))), ("next", ("ever", B))))
        self.fails(FREE, ("till", ("next", A), ("always", B)))
        self.kept(FREE, ("or", ("no", ("always", ("and", A, B))), ("and", ("always", A), ("always", B))))

    def test_greatest_wishes(self):
        self.kept(ALONE, joined(("till", A, B), ("ever", A), ("always", B), ("next", A)))
        # Twelve parts, five of them timed.
        twelve = ("or", ("no", ("till", ("next", A), B)), ("or", ("ever", ("always", A)), ("ever", B)))
        self.assertEqual((len(list(plain_walk(twelve))), len(plain_timed(twelve))), (12, 5))
        self.kept(FREE, twelve)
        self.fails(FREE, ("or", ("no", ("till", ("next", A), B)), ("or", ("ever", ("always", A)), ("always", B))))
        self.fails(FREE, ("always", nested("no", 10, A)))
        self.kept(FREE, ("or", nested("no", 6, ("ever", A)), ("no", A)))
        self.fails(FREE, nested("next", 5, A))
        self.fails(FREE, ("no", nested("next", 5, ("no", A))))
        self.kept(BLINKS, nested("next", 5, A))
        self.fails(BLINKS, nested("next", 4, A))

    def test_timed_part_that_stands_twice(self):
        ever = ("ever", A)
        self.kept(FREE, ("or", ever, ("no", ever)))
        self.kept(FREE, ("or", ("next", ever), ("no", ("next", ever))))
        self.fails(FREE, ("and", ever, ("next", ever)))
        self.kept(ALONE, ("and", ever, ("next", ever)))
        till = ("till", A, B)
        self.kept(FREE, ("or", ("no", till), ("and", ("ever", B), till)))
        # Two unlike timed parts have the numbers 0 and 1, whatever stands twice.
        table = table_of(FREE, ("or", ("no", till), ("and", ("ever", B), till)))
        self.assertEqual({number for line in table for number in line[1]}, {0})

    def test_against_short_runs(self):
        machines = some_machines(31, 6, 2) + some_machines(32, 3, 3)
        wishes = small_wishes(2) + small_wishes(3)[::3] + small_wishes(4)[::23]
        for machine in machines:
            runs = list(plain_runs(machine, 4))
            for wish in wishes:
                told = all(plain_worths(machine, wish, run)[0] for run in runs)
                self.assertIs(keeps(machine, wish), told, (machine, wish))

    def test_great_wishes_against_short_runs(self):
        machines = some_machines(33, 150, 3)
        for machine, wish in zip(machines, some_wishes(34, 150)):
            told = failing_run(machine, wish)
            if told is None:
                self.assertTrue(plain_keeps(machine, wish, 5), (machine, wish))
                self.kept(machine, wish)
            else:
                self.fails(machine, wish)

    def test_greater_machines(self):
        for machine, wish in zip(some_machines(35, 150), some_wishes(36, 150)):
            if keeps(machine, wish):
                self.assertTrue(plain_keeps(machine, wish, 3), (machine, wish))
                self.assertTrue(plain_table_holds(machine, wish, table_of(machine, wish)))
            else:
                self.fails(machine, wish)

    def test_far_failing_run(self):
        # The only runs go round the ring of eight.
        wish = ("no", joined(*(("always", ("ever", ("mark", mark))) for mark in (0, 3))))
        run = self.fails(EIGHT, wish)
        self.assertEqual(len(set(run[1])), 8)
        sets = ("or", ("ever", ("always", ("no", A))), ("ever", ("always", ("no", B))))
        run = self.fails(FREE, sets)
        self.assertIn(0, {mark for standing in run[1] for mark in FREE[2][standing]})
        self.assertIn(1, {mark for standing in run[1] for mark in FREE[2][standing]})

    def test_unlike_pending_parts_in_turn(self):
        # Each part can wait, and neither waits all the time.
        both = ("or", ("ever", ("always", ("no", A))), ("ever", ("always", ("no", B))))
        self.fails(OPEN, both)
        self.kept(STAYS, both)
        self.kept(LAMP, both)
        self.fails(LASSO, both)


class TestTablesByHand(Case):
    def holds(self, machine, wish, table):
        self.assertEqual(self.same_again(check_keep, machine, wish, ("keeps", table)), "keeps")
        self.assertTrue(plain_table_holds(machine, wish, table))

    def holds_not(self, machine, wish, table):
        self.refuses(BadPaper, "keeps", check_keep, machine, wish, ("keeps", table))

    def test_no_row_is_needed(self):
        self.holds(LAMP, TRUE, ())
        self.holds(LAMP, ("no", A), ())
        self.holds_not(LAMP, FALSE, ())
        # At the node (0, ()) the wish is not so, and no arrow leads from there.
        self.holds_not(LAMP, A, ())

    def test_ranks_go_down(self):
        wish = ("ever", A)
        self.holds(BLINKS, wish, ((0, (), 1, None), (1, (), 0, None)))
        self.holds(BLINKS, wish, ((0, (), 10, 0), (1, (), 9, 0)))
        self.holds(BLINKS, wish, ((0, (), GREAT, None), (1, (), 3, 0)))
        self.holds_not(BLINKS, wish, ((0, (), 1, None), (1, (), 1, None)))
        self.holds_not(BLINKS, wish, ((0, (), 0, None), (1, (), 1, None)))
        # Nothing is pending there.
        self.holds_not(BLINKS, wish, ((0, (), 1, 0), (1, (), 1, 0)))
        self.holds_not(BLINKS, wish, ((0, (), 1, None),))
        self.holds_not(BLINKS, wish, ((1, (), 0, None),))
        self.holds_not(BLINKS, wish, ((0, (), 0, None), (1, (), -1, None)))
        # There is no part with the number 1.
        self.holds_not(BLINKS, wish, ((0, (), 1, 1), (1, (), 0, None)))
        self.holds_not(BLINKS, wish, ((0, (), 1, None), (1, (), 0, 1)))

    def test_a_node_twice(self):
        wish = ("ever", A)
        self.holds(BLINKS, wish, ((0, (), 2, None), (1, (), 0, None)))
        self.holds_not(BLINKS, wish, ((0, (), 1, None), (0, (), 2, None), (1, (), 0, None)))
        self.holds_not(BLINKS, wish, ((0, (), 2, None), (0, (), 2, 0), (1, (), 0, None)))
        self.holds_not(BLINKS, wish, ((0, (), 2, None), (0, (), 2, None), (1, (), 0, None)))
        self.holds_not(BLINKS, wish, ((0, (), 2, None), (1, (), 0, None), (1, (), 1, None)))

    def test_rows_that_are_not_needed(self):
        wish = ("ever", A)
        rows = ((0, (), 1, None), (1, (), 0, None))
        # From (0, (0,)) arrows lead to (1, (0,)) and from there to both nodes of 0.
        self.holds_not(BLINKS, wish, (rows[0], (0, (0,), 5, None), rows[1]))
        self.holds_not(BLINKS, wish, (*rows, (1, (0,), 5, None)))
        self.holds_not(BLINKS, wish, (rows[0], (0, (0,), 5, None), rows[1], (1, (0,), 4, None)))
        ends = ((0,), ((1,), (2,), (2,)), ((), (0,), ()))
        self.holds(ends, wish, ((0, (), 1, None), (1, (), 0, None)))
        self.holds(ends, wish, ((0, (), 2, None), (1, (), 0, None), (2, (), 7, None))[:2])
        # The node (1, (0,)) leads to (2, ()) and (2, (0,)), and these lead to themselves.
        self.holds_not(ends, wish, ((0, (), 1, None), (1, (), 0, None), (2, (), 0, None)))
        self.holds(ends, wish, ((0, (), 1, None), (1, (), 0, None), (2, (0,), 0, 0)))
        self.holds_not(ends, wish, ((0, (), 1, None), (1, (), 0, None), (2, (0,), 0, None)))

    def test_spots_of_ever_till_and_always(self):
        dark = ((0,), ((0,),), ((),))
        lit = ((0,), ((0,),), ((0,),))
        samples = (
            (dark, ("no", ("ever", A)), (0,)),
            (dark, ("no", ("till", TRUE, A)), (0,)),
            (lit, ("no", ("till", A, B)), (0,)),
            (lit, ("always", A), ()),
        )
        for machine, wish, lot in samples:
            self.assertEqual([line[:2] for line in table_of(machine, wish)], [(0, lot)])
            for rank in (0, 1, 7, 2 ** 70, GREAT):
                self.holds(machine, wish, ((0, lot, rank, 0),))
            self.holds_not(machine, wish, ((0, lot, 0, None),))
            self.holds_not(machine, wish, ((0, lot, 0, 1),))
            self.holds_not(machine, wish, ((0, lot, 0, -1),))
            self.holds_not(machine, wish, ((0, lot, -1, 0),))
            self.holds_not(machine, wish, ((0, (0,)[len(lot):], 0, 0),))
            self.holds_not(machine, wish, ())

    def test_next(self):
        rises = ((0,), ((1,), (1,)), ((), (0,)))
        self.holds(rises, ("next", A), ((0, (), 0, None),))
        self.holds(rises, ("next", A), ((0, (), 0, 0),))
        self.holds_not(rises, ("next", A), ())
        # "next" is never pending: here a ring of nodes would go on for ever.
        self.holds_not(rises, ("next", ("no", A)), ((0, (), 0, 0), (1, (0,), 0, 0)))

    def test_the_same_rank_wants_the_same_spot(self):
        # The parts 0 and 1 are both pending, at (0, (0, 1)).
        dark = ((0,), ((0,),), ((),))
        wish = ("no", ("and", ("ever", A), ("ever", B)))
        self.holds(dark, wish, ((0, (0, 1), 0, 0),))
        self.holds(dark, wish, ((0, (0, 1), 0, 1),))
        self.holds_not(dark, wish, ((0, (0, 1), 0, None),))
        two = ((0,), ((1,), (0,)), ((), ()))
        self.holds(two, wish, ((0, (0, 1), 3, 0), (1, (0, 1), 3, 0)))
        self.holds(two, wish, ((0, (0, 1), 3, 1), (1, (0, 1), 3, 1)))
        self.holds_not(two, wish, ((0, (0, 1), 3, 0), (1, (0, 1), 3, 1)))
        self.holds_not(two, wish, ((0, (0, 1), 4, 0), (1, (0, 1), 3, 0)))

    def test_pending_at_both_nodes(self):
        # The parts are "ever" of 0, "always", and "ever" of 1; the mark 0 is at the standing 1 alone.
        wish = ("no", ("and", ("ever", A), ("always", ("ever", B))))
        passes = ((0,), ((1,), (2,), (2,)), ((), (0,), ()))
        all_three = (0, 1, 2)

        def table(first, second, third):
            return (
                (0, (0, 1), 0, None), (0, all_three, *first), (1, all_three, *second),
                (2, all_three, *third), (2, (1, 2), 0, 2),
            )

        self.holds(passes, wish, table((2, None), (1, None), (0, 2)))
        self.holds(passes, wish, table((0, 2), (0, 2), (0, 2)))
        self.holds(passes, wish, table((3, 0), (2, 0), (1, 0)))
        # The part 0 is pending at the standings 0 and 2, and not at 1.
        self.holds_not(passes, wish, table((2, 0), (2, 0), (1, 0)))
        self.holds_not(passes, wish, table((3, 0), (2, 0), (2, 0)))
        self.holds_not(passes, wish, table((2, 0), (2, 0), (0, 2)))
        # The part 1 is pending nowhere.
        self.holds_not(passes, wish, table((2, 1), (2, 1), (0, 2)))
        self.holds_not(passes, wish, table((1, 2), (0, 2), (1, 2)))

    def test_a_table_for_a_wish_that_fails(self):
        wish = ("always", ("ever", A))
        for ranks in ((0, 0, 0, 0), (3, 2, 1, 0), (0, 1, 2, 3)):
            for spot in (None, 0, 1):
                nodes = [(0, ()), (0, (1,)), (1, ()), (1, (1,))]
                lines = tuple(node + (rank, spot) for node, rank in zip(nodes, ranks))
                self.holds_not(LAMP, wish, lines)


class TestCheckKeep(Case):
    WISH = ("or", ("always", ("ever", A)), ("ever", ("always", ("no", A))))

    def test_form(self):
        papers = ODD + TRUTHS + (
            (), ("keeps",), ("fails",), ("keeps", (), ()), ("fails", ((), (0,)), None), ["keeps", ()],
            ("keep", ()), ("Keeps", ()), ("", ()), ("idle", ()), ("matters", ((), (0,))), (b"keeps", ()),
            (("keeps",), ()), ((), "keeps"), (None, ()), (0, ()), (True, ()), (AGREEING, ()), (GRUDGING, ()),
            (["keeps"], ()), ("keeps fails", ()),
        )
        for paper in papers:
            self.refuses(BadPaper, "form", check_keep, LAMP, self.WISH, paper)

    def test_no_table(self):
        node = (0, ())
        lines = ODD + TRUTHS + (0, -1, GREAT, ((),), ((0,),), ((0, ()),), (node + (0,),), (node + (0, None, 0),))
        for table in lines:
            self.refuses(BadPaper, "keeps", check_keep, LAMP, TRUE, ("keeps", table))
        for line in ODD + TRUTHS + (0, (), (0, (), 0), (0, (), 0, None, 0), [0, (), 0, None]):
            self.refuses(BadPaper, "keeps", check_keep, LAMP, TRUE, ("keeps", (line,)))

    def test_wrong_kinds_in_a_line(self):
        # This wish is kept with (), and no arrow leads from (1, ()).
        wish = ("or", ("ever", A), ("no", ("ever", A)))
        good = (1, (), 0, 0)
        self.assertEqual(check_keep(BLINKS, wish, ("keeps", (good,))), "keeps")
        for at in range(4):
            for odd in ODD + TRUTHS + ((0, 0), (1, 0), "x", -1, 2 if at != 2 else -2):
                if at == 3 and odd is None:
                    continue
                line = good[:at] + (odd,) + good[at + 1:]
                self.refuses(BadPaper, "keeps", check_keep, BLINKS, wish, ("keeps", (line,)))
        for lot in ((False,), (True,), (0, 0), (1,), (-1,), [0], {0}, (None,), (AGREEING,), ((),), 0):
            self.refuses(BadPaper, "keeps", check_keep, BLINKS, wish, ("keeps", ((1, lot, 0, 0),)))
        self.assertEqual(check_keep(BLINKS, wish, ("keeps", ((1, (), 0, None),))), "keeps")
        self.refuses(BadPaper, "keeps", check_keep, BLINKS, wish, ("keeps", [good]))
        self.refuses(BadPaper, "keeps", check_keep, BLINKS, wish, ("keeps", good))

    def test_order_and_doubles(self):
        table = table_of(LAMP, self.WISH)
        self.assertGreater(len(table), 2)
        for at in range(len(table) - 1):
            turned = table[:at] + (table[at + 1], table[at]) + table[at + 2:]
            self.refuses(BadPaper, "keeps", check_keep, LAMP, self.WISH, ("keeps", turned))
        self.refuses(BadPaper, "keeps", check_keep, LAMP, self.WISH, ("keeps", table[::-1]))
        for at, line in enumerate(table):
            for double in (line, line[:2] + (line[2] + 1, line[3])):
                twice = table[:at + 1] + (double,) + table[at + 1:]
                self.refuses(BadPaper, "keeps", check_keep, LAMP, self.WISH, ("keeps", twice))

    def test_a_row_less(self):
        for machine, wish in ((LAMP, self.WISH), (HOUSE, ("or", ("ever", ("always", A)), ANSWERED)), (QUICK, ANSWERED)):
            table = table_of(machine, wish)
            self.assertGreater(len(table), 0)
            for at in range(len(table)):
                less = table[:at] + table[at + 1:]
                self.refuses(BadPaper, "keeps", check_keep, machine, wish, ("keeps", less))
            self.refuses(BadPaper, "keeps", check_keep, machine, wish, ("keeps", list(table)))
            lists = tuple(list(line) for line in table)
            self.refuses(BadPaper, "keeps", check_keep, machine, wish, ("keeps", lists))

    def test_greater_ranks_still_hold(self):
        for machine, wish in ((LAMP, self.WISH), (QUICK, ANSWERED), (LOCK, NOT_AHEAD)):
            table = table_of(machine, wish)
            for many, more in ((1, 7), (3, 0), (10 ** 40, 1)):
                greater = tuple(line[:2] + (line[2] * many + more, line[3]) for line in table)
                self.assertEqual(check_keep(machine, wish, ("keeps", greater)), "keeps")
            negative = tuple(line[:2] + (line[2] - 1 - len(table), line[3]) for line in table)
            self.refuses(BadPaper, "keeps", check_keep, machine, wish, ("keeps", negative))
            truths = tuple(line[:2] + (bool(line[2]), line[3]) for line in table)
            self.refuses(BadPaper, "keeps", check_keep, machine, wish, ("keeps", truths))

    def test_no_spot(self):
        table = table_of(LAMP, self.WISH)
        spots = [at for at, line in enumerate(table) if line[3] is not None]
        self.assertTrue(spots)
        none = tuple(line[:3] + (None,) for line in table)
        self.refuses(BadPaper, "keeps", check_keep, LAMP, self.WISH, ("keeps", none))
        truth = tuple(line[:3] + (None if line[3] is None else bool(line[3]),) for line in table)
        self.refuses(BadPaper, "keeps", check_keep, LAMP, self.WISH, ("keeps", truth))

    def test_other_tables_against_the_words(self):
        chance = random.Random(41)
        told = {True: 0, False: 0}
        samples = [
            (LAMP, self.WISH), (QUICK, ANSWERED), (LOCK, NOT_AHEAD), (STAYS, ("always", ("or", ("no", A), ("always", A)))),
            (BLINKS, ("ever", A)), (LAMP, ("or", ("ever", A), ("always", ("no", A)))),
            (((0,), ((1,), (0, 2), (2,)), ((), (), ())), ("no", ("till", ("no", A), ("ever", A)))),
            (LASSO, ("always", ("or", ("no", B), ("next", ("next", B))))),
            (LASSO, ("no", ("and", ("always", ("ever", B)), ("ever", C)))),
        ]
        samples += [
            (machine, wish)
            for machine, wish in zip(some_machines(42, 60, 3), some_wishes(43, 60))
            if keeps(machine, wish) and len(plain_timed(wish)) < 4
        ]
        for machine, wish in samples:
            table = table_of(machine, wish)
            for _ in range(25):
                other = another_table(chance, table, machine, wish)
                holds = plain_table_holds(machine, wish, other)
                told[holds] += 1
                if holds:
                    self.assertEqual(check_keep(machine, wish, ("keeps", other)), "keeps")
                else:
                    self.refuses(BadPaper, "keeps", check_keep, machine, wish, ("keeps", other))
        self.assertGreater(told[True], 100)
        self.assertGreater(told[False], 100)

    def test_runs(self):
        wish = ("always", ("ever", A))
        self.assertEqual(self.same_again(check_keep, LAMP, wish, ("fails", ((0, 1), (0, 0)))), "fails")
        self.assertEqual(check_keep(LAMP, wish, ("fails", ((), (0,)))), "fails")
        self.assertEqual(check_keep(LAMP, wish, ("fails", ((0,) * 1999, (0,)))), "fails")
        runs = (
            # They keep the wish.
            ((), (0, 1)), ((0, 0), (1,)), ((0,), (0, 0, 1)),
            # They are none, or runs of another machine.
            ((), (1,)), ((), ()), ((0,), ()), ((0, 2), (0,)), ((), (0, 2)), ((), (False,)), ((0, True), (0,)),
            [(), (0,)], ([], (0,)), ((), [0]), ((), (0,), ()), ((),), (0, 0), ((0,) * 2000, (0,)), (((), (0,)),),
        )
        for run in runs + ODD + TRUTHS:
            self.refuses(BadPaper, "fails", check_keep, LAMP, wish, ("fails", run))
        self.refuses(BadPaper, "fails", check_keep, BLINKS, ("always", A), ("fails", ((), (0,))))
        self.refuses(BadPaper, "fails", check_keep, LAMP, TRUE, ("fails", ((), (0,))))

    def test_papers_of_other_wishes(self):
        kept = keep_paper(LAMP, self.WISH)
        failing = keep_paper(LAMP, ("ever", A))
        self.refuses(BadPaper, "keeps", check_keep, LAMP, ("ever", A), kept)
        self.refuses(BadPaper, "fails", check_keep, LAMP, self.WISH, failing)
        self.refuses(BadPaper, "keeps", check_keep, LAMP, ("ever", A), ("keeps", ()))


if __name__ == "__main__":
    unittest.main()
