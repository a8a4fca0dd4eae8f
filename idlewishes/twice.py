"""Parts that stand several times in a wish: what stands at all their places together."""

from idlewishes.errors import TooGreat
from idlewishes.forms import MOST_MARK, lots_by_size
from idlewishes.idle import WORDS
from idlewishes.keeping import is_kept, judged, paper_on
from idlewishes.machines import need_machine
from idlewishes.wishes import is_plain, need_wish, put_at, walked

FREE_MARK = MOST_MARK + 1
MOST_SPLIT = 6


def places(wish, part):
    """The ascending tuple of the places of a part."""
    need_wish(wish)
    need_wish(part)
    return _places(wish, part)


def has_one_sign(wish, part):
    """Whether all places of a part are read plainly, or none is."""
    plain = [is_plain(wish, path) for path in places(wish, part)]
    return all(plain) or not any(plain)


def freed(wish, part):
    """The wish with the free mark at all places of a part."""
    need_wish(wish)
    need_wish(part)
    return _freed(wish, part)


def doubled(machine):
    """The machine with two standings for each: the second one has the free mark besides."""
    need_machine(machine)
    return _doubled(machine)


def is_idle_by_moments(machine, wish, part):
    """Whether the wish is kept whatever stands at all places of a part, moment by moment."""
    _need_all(machine, wish, part)
    return is_kept(_doubled(machine), _freed(wish, part))


def is_idle_by_standings(machine, wish, part):
    """Whether the wish is kept whatever stands at all places of a part, standing by standing."""
    return breaking_lot(machine, wish, part) is None


def is_idle_by_constants(machine, wish, part):
    """Whether the wish is kept with either constant at all places of a part."""
    _need_all(machine, wish, part)
    return all([is_kept(machine, _put_at_places(wish, part, (word,))) for word in ("true", "false")])


def breaking_lot(machine, wish, part):
    """The first of the smallest lots of standings that break the freed wish, or None.

    These are the standings with the free mark.
    """
    _need_all(machine, wish, part)
    many = len(machine[2])
    if many > MOST_SPLIT:
        raise TooGreat(MOST_SPLIT)
    wanted = _freed(wish, part)
    for lot in lots_by_size(many):
        if not is_kept(_marked(machine, lot), wanted):
            return lot
    return None


def moments_paper(machine, wish, part):
    """A paper on whether a part is idle by moments."""
    _need_all(machine, wish, part)
    return paper_on(_doubled(machine), _freed(wish, part), WORDS)


def check_moments(machine, wish, part, paper):
    """The word of a paper that holds."""
    _need_all(machine, wish, part)
    return judged(_doubled(machine), _freed(wish, part), paper, WORDS)


def _need_all(machine, wish, part):
    """What is raised for the first of the three that is wrong."""
    need_machine(machine)
    need_wish(wish)
    need_wish(part)


def _places(wish, part):
    """The places of a part; nothing is checked."""
    return tuple([path for path, inner in walked(wish) if inner == part])


def _put_at_places(wish, part, other):
    """The wish with something else at all places of a part; nothing is checked."""
    # A part does not stand in itself, so no place is lost when another one is filled.
    filled = wish
    for path in _places(wish, part):
        filled = put_at(filled, path, other)
    return filled


def _freed(wish, part):
    """The wish freed of a part; nothing is checked."""
    return _put_at_places(wish, part, ("mark", FREE_MARK))


def _doubled(machine):
    """The machine doubled; nothing is checked."""
    starts, ways, marks = machine
    both = [(there, there + (FREE_MARK,)) for there in marks]
    return (
        _both_of(starts),
        tuple([_both_of(after) for after in ways for _ in range(2)]),
        tuple([there for pair in both for there in pair]),
    )


def _both_of(standings):
    """The standings of a doubled machine that stand for these."""
    return tuple([2 * standing + more for standing in standings for more in range(2)])


def _marked(machine, lot):
    """The machine with the free mark besides at just these standings; nothing is checked."""
    starts, ways, marks = machine
    there = list(marks)
    for standing in lot:
        there[standing] = marks[standing] + (FREE_MARK,)
    return (starts, ways, tuple(there))
