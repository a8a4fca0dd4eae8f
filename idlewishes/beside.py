"""Wishes beside one another: which follow from which, everywhere or on a machine."""

from idlewishes.errors import TooGreat
from idlewishes.forms import MOST_MARK, all_lots, is_ascending
from idlewishes.keeping import is_kept, run_against
from idlewishes.machines import is_pair_of_rows, need_machine
from idlewishes.values import worth_row
from idlewishes.wishes import MOST_TIMED, marks_in, need_wish, need_wishes, unlike_timed


def follows(one, other):
    """Whether other follows from one."""
    return apart_run(one, other) is None


def apart_run(one, other):
    """A run of marks that keeps one and does not keep other, or None."""
    _need_both(one, other)
    return _apart_run(one, other)


def is_apart_run(one, other, value):
    """Whether any value is a run of marks that keeps one and does not keep other."""
    need_wish(one)
    need_wish(other)
    if not _is_run_of_marks(value):
        return False
    return _keeps_marks(one, value) and not _keeps_marks(other, value)


def are_alike(one, other):
    """Whether each of two wishes follows from the other one."""
    return follows(one, other) and follows(other, one)


def is_always_so(wish):
    """Whether all runs of marks keep the wish."""
    need_wish(wish)
    return is_kept(_machine_of(_lots_in(wish)), wish)


def can_be_so(wish):
    """Whether a run of marks keeps the wish."""
    need_wish(wish)
    return not is_kept(_machine_of(_lots_in(wish)), ("no", wish))


def apart_on(machine, one, other):
    """A run of the machine that keeps one and does not keep other, or None."""
    need_machine(machine)
    _need_both(one, other)
    return run_against(machine, _implied(one, other))


def follows_on(machine, one, other):
    """Whether other follows from one on the machine."""
    return apart_on(machine, one, other) is None


def are_alike_on(machine, one, other):
    """Whether each of two wishes follows from the other one on the machine."""
    return follows_on(machine, one, other) and follows_on(machine, other, one)


def needless_wishes(wishes):
    """The ascending tuple of the numbers of those that follow from another one, of alike ones all but the first."""
    need_wishes(wishes)
    pairs = [(one, other) for one in range(len(wishes)) for other in range(len(wishes)) if one != other]
    for one, other in pairs:
        _need_few_timed(wishes[one], wishes[other])
    leads = {(one, other): _apart_run(wishes[one], wishes[other]) is None for one, other in pairs}
    needless = {}
    for one, other in pairs:
        # Of two that are alike, only the second one is needless because of the first.
        if leads[(one, other)] and (one < other or not leads[(other, one)]):
            needless[other] = True
    return tuple(sorted(needless))


def _need_both(one, other):
    """What is raised for two wishes that are looked at together."""
    need_wish(one)
    need_wish(other)
    _need_few_timed(one, other)


def _need_few_timed(one, other):
    """TooGreat if two wishes have too many unlike timed parts together."""
    if len(unlike_timed(("and", one, other))) > MOST_TIMED:
        raise TooGreat(MOST_TIMED)


def _implied(one, other):
    """What a run does not keep exactly if it keeps one and does not keep other."""
    return ("or", ("no", one), other)


def _apart_run(one, other):
    """A run of marks that keeps one and does not keep other, or None; nothing is checked."""
    wanted = _implied(one, other)
    lots = _lots_in(wanted)
    run = run_against(_machine_of(lots), wanted)
    if run is None:
        return None
    ahead, ring = run
    return (tuple([lots[standing] for standing in ahead]), tuple([lots[standing] for standing in ring]))


def _lots_in(wish):
    """The tuple of all lots of the marks that stand in the wish."""
    marks = marks_in(wish)
    return tuple([tuple([marks[number] for number in lot]) for lot in all_lots(len(marks))])


def _machine_of(lots):
    """What has a standing for each lot of marks, all being STARTS, with all ways; it has up to sixteen standings."""
    everywhere = tuple(range(len(lots)))
    return (everywhere, (everywhere,) * len(lots), lots)


def _is_run_of_marks(value):
    """Whether any value is a run of marks."""
    if not is_pair_of_rows(value):
        return False
    ahead, ring = value
    return all([is_ascending(there, MOST_MARK) for there in ahead + ring])


def _keeps_marks(wish, run):
    """Whether a run of marks keeps the wish; nothing is checked."""
    ahead, ring = run
    return worth_row(wish, ahead + ring, len(ahead))[0]
