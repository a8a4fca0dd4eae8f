"""Wishes told back from runs: which of a menu fit what was told of them."""

from idlewishes.errors import BadLog, BadMenu, BadWish
from idlewishes.keeping import is_kept_along
from idlewishes.machines import goes_along, need_machine
from idlewishes.wishes import need_wish

MOST_IN_MENU = 8
MOST_IN_LOG = 20


def fitting_wishes(machine, menu, log):
    """The ascending tuple of the numbers of the wishes that fit the log."""
    _need_all(machine, menu, log)
    return tuple(_fitting(machine, menu, log))


def first_false(machine, menu, log):
    """The number of the first pair such that no wish fits the log up to it, or None."""
    _need_all(machine, menu, log)
    for number in range(len(log)):
        if _fitting(machine, menu, log[:number + 1]) == []:
            return number
    return None


def _fitting(machine, menu, log):
    """The ascending list of the numbers of the wishes that fit the log; nothing is checked."""
    return [number for number, wish in enumerate(menu) if _fits(machine, wish, log)]


def _fits(machine, wish, log):
    """Whether just those of the runs keep the wish of which True is told; nothing is checked."""
    return all([is_kept_along(machine, wish, run) == told for run, told in log])


def _need_all(machine, menu, log):
    """What is raised for the first of the three that is wrong."""
    need_machine(machine)
    _need_menu(menu)
    _need_log(machine, log)


def _need_menu(menu):
    """BadMenu for any value that is no menu."""
    if not isinstance(menu, tuple) or not 1 <= len(menu) <= MOST_IN_MENU:
        raise BadMenu(None)
    for number, wish in enumerate(menu):
        try:
            need_wish(wish)
        except BadWish:
            raise BadMenu(number) from None


def _need_log(machine, log):
    """BadLog for any value that is no log of the machine."""
    if not isinstance(log, (list, tuple)) or len(log) > MOST_IN_LOG:
        raise BadLog(None)
    for place, pair in enumerate(log):
        if not isinstance(pair, tuple) or len(pair) != 2:
            raise BadLog(place)
        run, told = pair
        if not isinstance(told, bool) or not goes_along(machine, run):
            raise BadLog(place)
