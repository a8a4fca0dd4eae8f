"""Things that several tests use: odd values, samples, and plain reckonings of the document's words."""

import copy
import itertools
import random
import unittest
from functools import lru_cache

from idlewishes.errors import BadText, WishError


class Blank:
    """An object of a class of one's own."""


class Agreeing:
    """An object that is equal to everything."""

    def __eq__(self, other):
        return True

    def __hash__(self):
        return 0


class Grudging:
    """An object that can neither be compared, nor looked up, nor counted, nor shown."""

    __hash__ = None

    def _grudge(self, *told):
        raise RuntimeError("this object was asked")

    __eq__ = __ne__ = __lt__ = __le__ = __gt__ = __ge__ = _grudge
    __len__ = __iter__ = __bool__ = __contains__ = __getitem__ = _grudge
    __repr__ = __str__ = __index__ = __int__ = _grudge


GREAT = 10 ** 999 - 1
AGREEING = Agreeing()
GRUDGING = Grudging()

# Values that are neither integers nor tuples, and so stand nowhere in what is passed.
ODD = (
    None,
    "",
    "true",
    "0",
    b"",
    b"\x00",
    [],
    [0],
    {},
    {0: 1},
    {0},
    frozenset((0,)),
    range(2),
    object(),
    len,
    Blank,
    Blank(),
    AGREEING,
    GRUDGING,
    ValueError("x"),
)
# What equals 0 or 1 and is no integer here.
TRUTHS = (False, True)
# Integers that are no marks, no standings, no places.
FAR = (-1, -GREAT, 8, 10 ** 30 + 1, GREAT)


def outcome(call, *args, **more):
    """What a call returns or refuses, as a pair that can be compared."""
    try:
        return ("returns", call(*args, **more))
    except (WishError, OverflowError) as wrong:
        return (wrong.__class__.__name__, vars(wrong))


class Case(unittest.TestCase):
    """A test case that can look at what is refused, and how."""

    def refuses(self, error, field, call, *args):
        """The very error is raised, its one field being just this."""
        with self.assertRaises(error) as caught:
            call(*args)
        self.assertIs(caught.exception.__class__, error)
        fields = list(vars(caught.exception).values())
        self.assertEqual(fields, [field])
        # True equals 1, but is no number.
        self.assertEqual(repr(fields), repr([field]))

    def refuses_text(self, line, word, call, *args):
        """BadText is raised with just this line and word."""
        with self.assertRaises(BadText) as caught:
            call(*args)
        self.assertIs(caught.exception.__class__, BadText)
        self.assertEqual(repr(vars(caught.exception)), repr({"line": line, "word": word}))

    def refuses_itself(self, error, value, call, *args):
        """The very error is raised, its one field being the very value."""
        with self.assertRaises(error) as caught:
            call(*args)
        self.assertIs(caught.exception.__class__, error)
        fields = list(vars(caught.exception).values())
        self.assertEqual(len(fields), 1)
        self.assertIs(fields[0], value)

    def same_again(self, call, *args):
        """Two equal calls tell the same, and leave what is passed as it was."""
        before = copy.deepcopy(args)
        first = call(*args)
        self.assertEqual(args, before)
        second = call(*copy.deepcopy(args))
        self.assertEqual(first, second)
        self.assertIs(first.__class__, second.__class__)
        self.assertEqual(args, before)
        return first


TRUE = ("true",)
FALSE = ("false",)
A = ("mark", 0)
B = ("mark", 1)

# Three standings: no mark, the mark 0, the mark 1; from each one to each one.
OPEN = ((0, 1, 2), ((0, 1, 2), (0, 1, 2), (0, 1, 2)), ((), (0,), (1,)))
# A single standing with all the marks.
ALONE = ((0,), ((0,),), ((0, 1, 2, 3),))
# From 0 to 1, and then between 1 and 2; nothing comes to 3.
LASSO = ((0,), ((1,), (2,), (1,), (0, 3)), ((), (0,), (0, 1), (2, 3)))
# As many standings as can be, in one ring.
EIGHT = (
    (0, 7),
    ((1,), (2,), (3,), (4,), (5,), (6,), (7,), (0,)),
    ((), (0,), (1,), (2,), (3,), (0, 3), (0, 1, 2, 3), (1, 2)),
)
MACHINES = (OPEN, ALONE, LASSO, EIGHT)


def nested(word, many, inner=TRUE):
    """A part with so many parts of one kind around it."""
    for _ in range(many):
        inner = (word, inner)
    return inner


def joined(*parts):
    """("and", ..) of all the parts, from the left to the right."""
    whole = parts[0]
    for part in parts[1:]:
        whole = ("and", whole, part)
    return whole


def plain_is_run(machine, run):
    """Whether a pair of tuples of numbers of standings is a run, read off point 11."""
    starts, ways, marks = machine
    ahead, ring = run
    row = [*ahead, *ring, *ring]
    if not 1 <= len(ring) or len(ahead) + len(ring) > 2000 or row[0] not in starts:
        return False
    return all(row[at] in ways[row[at - 1]] for at in range(1, len(row)))


def plain_runs(machine, most):
    """All runs of at most so many standings, the shorter ones first."""
    for many in range(1, most + 1):
        for row in itertools.product(range(len(machine[2])), repeat=many):
            for at in range(many):
                if plain_is_run(machine, (row[:at], row[at:])):
                    yield row[:at], row[at:]


def plain_reached(machine):
    """The standings to which ways of any length lead from STARTS."""
    starts, ways, marks = machine
    far = set(starts)
    for _ in marks:
        far |= {then for now in far for then in ways[now]}
    return tuple(sorted(far))


def plain_worth(marks, back, wish, moment):
    """Whether a wish is so at a moment, word by word as point 13 tells it.

    From any moment on, as many moments as there are standings show all that
    ever comes.
    """
    many = len(marks)

    def marks_at(now):
        return marks[now] if now < back else marks[back + (now - back) % (many - back)]

    @lru_cache(maxsize=None)
    def so(part, now):
        word = part[0]
        later = range(now, now + many)
        if word in ("true", "false"):
            return word == "true"
        if word == "mark":
            return part[1] in marks_at(now)
        if word == "no":
            return not so(part[1], now)
        if word == "and":
            return so(part[1], now) and so(part[2], now)
        if word == "or":
            return so(part[1], now) or so(part[2], now)
        if word == "next":
            return so(part[1], now + 1)
        if word == "ever":
            return any(so(part[1], then) for then in later)
        if word == "always":
            return all(so(part[1], then) for then in later)
        first = next((then for then in later if so(part[2], then)), None)
        return first is not None and all(so(part[1], then) for then in range(now, first))

    return so(wish, moment)


def plain_worths(machine, wish, run):
    """Whether a wish is so at each standing of a run, by the plain reckoning."""
    row = run[0] + run[1]
    marks = [machine[2][standing] for standing in row]
    return tuple(plain_worth(marks, len(run[0]), wish, moment) for moment in range(len(row)))


@lru_cache(maxsize=None)
def small_wishes(many):
    """All wishes of just so many parts, with no marks but 0 and 1."""
    if many == 1:
        return (TRUE, FALSE, A, B)
    found = [
        (word, inner)
        for word in ("no", "next", "ever", "always")
        for inner in small_wishes(many - 1)
    ]
    for left in range(1, many - 1):
        for one in small_wishes(left):
            for other in small_wishes(many - 1 - left):
                found += [(word, one, other) for word in ("and", "or", "till")]
    return tuple(found)


def some_wish(chance, many, timed):
    """A pair of a wish of at most so many parts and timed ones, and how many timed ones are left."""
    words = ["mark", "mark", "mark", "true", "false"]
    if many > 1:
        words += ["no"] * 3 + (["next", "ever", "always"] * 3 if timed else [])
    if many > 2:
        words += ["and", "or"] * 4 + (["till"] * 6 if timed else [])
    word = chance.choice(words)
    if word == "mark":
        return ("mark", chance.randrange(4)), timed
    if word in ("true", "false"):
        return (word,), timed
    timed -= word in ("next", "ever", "always", "till")
    if word in ("and", "or", "till"):
        left = chance.randrange(1, many - 1)
        one, timed = some_wish(chance, left, timed)
        other, timed = some_wish(chance, many - 1 - left, timed)
        return (word, one, other), timed
    inner, timed = some_wish(chance, many - 1, timed)
    return (word, inner), timed


def some_wishes(seed, many):
    """So many wishes of all sizes, the same ones each time."""
    chance = random.Random(seed)
    return [some_wish(chance, 12, 5)[0] for _ in range(many)]


def some_machine(chance, most):
    """A machine of at most so many standings."""
    many = chance.randrange(1, most + 1)

    def some_of(row, least):
        return tuple(sorted(chance.sample(row, chance.randint(least, min(3, len(row))))))

    standings = range(many)
    return (
        some_of(standings, 1),
        tuple(some_of(standings, 1) for _ in standings),
        tuple(some_of(range(4), 0) for _ in standings),
    )


def some_machines(seed, many, most=8):
    """So many machines of all sizes, the same ones each time."""
    chance = random.Random(seed)
    return [some_machine(chance, most) for _ in range(many)]


def some_run(chance, machine, most):
    """A run of a machine of at most about so many standings."""
    starts, ways, marks = machine
    row = [chance.choice(starts)]
    while True:
        closing = [at for at, standing in enumerate(row) if standing in ways[row[-1]]]
        if closing and (len(row) >= most or chance.random() < 0.2):
            at = chance.choice(closing)
            return tuple(row[:at]), tuple(row[at:])
        row.append(chance.choice(ways[row[-1]]))


def lively(seed, many, keeps):
    """So many pairs of a small machine and a wish of marks 0 and 1 that some runs keep and others do not.

    keeps tells whether a machine keeps a wish.
    """
    chance = random.Random(seed)
    pairs = []
    while len(pairs) < many:
        standings = range(chance.choice((2, 3, 3, 4)))

        def some_of(row, least):
            return tuple(sorted(chance.sample(row, chance.randint(least, min(3, len(row))))))

        machine = (
            some_of(standings, 1),
            tuple(some_of(standings, 1) for _ in standings),
            tuple(some_of(range(2), 0) for _ in standings),
        )
        wish = low_marks(some_wish(chance, chance.choice((4, 6, 9, 11)), chance.choice((1, 2, 3, 4)))[0])
        if not keeps(machine, wish) and not keeps(machine, ("no", wish)):
            pairs.append((machine, wish))
    return pairs


def low_marks(wish):
    """The wish with the marks 0 and 1 for 2 and 3."""
    if wish[0] == "mark":
        return ("mark", wish[1] % 2)
    return (wish[0], *(low_marks(inner) for inner in wish[1:]))
