"""Marks and ways of a machine that wishes touch, or leave free."""

from idlewishes.errors import BadNumber
from idlewishes.forms import MOST_MARK, is_number, lots_by_size
from idlewishes.keeping import is_kept
from idlewishes.machines import need_machine, reached
from idlewishes.wishes import marks_in, need_wish, need_wishes


def turned(machine, standing, mark):
    """The machine with a mark turned at a standing."""
    need_machine(machine)
    _need_standing(machine, standing)
    if not is_number(mark, 0, MOST_MARK):
        raise BadNumber(mark)
    return _turned(machine, standing, mark)


def with_way(machine, one, other):
    """The machine with one standing as a next one of another one besides."""
    need_machine(machine)
    _need_standing(machine, one)
    _need_standing(machine, other)
    return _with_way(machine, one, other)


def touched(machine, wish):
    """The ascending tuple of the pairs of standing and mark that the wish touches."""
    need_machine(machine)
    need_wish(wish)
    return _touched(machine, wish)


def untouched(machine, wishes):
    """The ascending tuple of the pairs of a standing to which runs come and a mark that no wish touches."""
    need_machine(machine)
    need_wishes(wishes)
    touches = {pair: True for wish in wishes for pair in _touched(machine, wish)}
    everywhere = [(standing, mark) for standing in reached(machine) for mark in range(MOST_MARK + 1)]
    return tuple([pair for pair in everywhere if pair not in touches])


def fewest_wishes(machine, wishes):
    """The first of the smallest tuples of numbers of wishes that touch all that all of them touch."""
    need_machine(machine)
    need_wishes(wishes)
    touches = [_touched(machine, wish) for wish in wishes]
    wanted = [pair for pairs in touches for pair in pairs]
    # All of them together do, so at least one lot is found.
    return [
        numbers
        for numbers in lots_by_size(len(wishes))
        if all([any([pair in touches[number] for number in numbers]) for pair in wanted])
    ][0]


def free_ways(machine, wish):
    """The ascending tuple of the pairs of standings of the ways that are free for the wish."""
    need_machine(machine)
    need_wish(wish)
    if not is_kept(machine, wish):
        return ()
    ways = machine[1]
    missing = [(now, then) for now in reached(machine) for then in range(len(ways)) if then not in ways[now]]
    return tuple([(now, then) for now, then in missing if is_kept(_with_way(machine, now, then), wish)])


def _need_standing(machine, value):
    """BadNumber for any value that is no number of a standing of the machine."""
    if not is_number(value, 0, len(machine[2]) - 1):
        raise BadNumber(value)


def _turned(machine, standing, mark):
    """The machine with a mark turned at a standing; nothing is checked."""
    starts, ways, marks = machine
    there = [other for other in range(MOST_MARK + 1) if (other in marks[standing]) != (other == mark)]
    return (starts, ways, marks[:standing] + (tuple(there),) + marks[standing + 1:])


def _with_way(machine, one, other):
    """The machine with other as a next one of one; nothing is checked."""
    starts, ways, marks = machine
    after = [then for then in range(len(ways)) if then in ways[one] or then == other]
    return (starts, ways[:one] + (tuple(after),) + ways[one + 1:], marks)


def _touched(machine, wish):
    """The pairs of standing and mark that the wish touches; nothing is checked."""
    if not is_kept(machine, wish):
        return ()
    # A mark that does not stand in the wish is not looked at, so turning it changes nothing.
    pairs = [(standing, mark) for standing in reached(machine) for mark in marks_in(wish)]
    return tuple([(standing, mark) for standing, mark in pairs if not is_kept(_turned(machine, standing, mark), wish)])
