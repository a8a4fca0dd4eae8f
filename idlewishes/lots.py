"""Lots of parts of a wish that are idle together, and the harder wishes that still pass."""

from idlewishes.errors import BadPath
from idlewishes.keeping import is_kept
from idlewishes.machines import need_machine
from idlewishes.wishes import is_path, need_wish, put_at, worst

CONSTANTS = (("true",), ("false",))


def hardened_at(wish, lot):
    """The wish with the worst constant of each path of a lot there."""
    need_wish(wish)
    _need_lot(wish, lot)
    return _hardened_at(wish, lot)


def are_idle(machine, wish, lot):
    """Whether the parts at the paths of a lot are idle together."""
    need_machine(machine)
    need_wish(wish)
    _need_lot(wish, lot)
    return is_kept(machine, _hardened_at(wish, lot))


def idle_lots(machine, wish):
    """The ascending tuple of all greatest idle lots."""
    need_machine(machine)
    need_wish(wish)
    idle = [lot for lot in _lots_in(wish, ()) if is_kept(machine, _hardened_at(wish, lot))]
    return tuple(sorted([lot for lot in idle if _is_greatest(lot, idle)]))


def cleared(wish):
    """The wish from which constants are cleared."""
    return _cleared(need_wish(wish))


def harder_wishes(machine, wish):
    """The ascending tuple of what is cleared of the wish hardened at each greatest idle lot, each once."""
    found = []
    for lot in idle_lots(machine, wish):
        harder = _cleared(_hardened_at(wish, lot))
        if harder not in found:
            found.append(harder)
    return tuple(sorted(found))


def _need_lot(wish, lot):
    """BadPath for any value that is no lot of paths of the wish."""
    if not isinstance(lot, tuple) or not all([is_path(wish, path) for path in lot]):
        raise BadPath(lot)
    # What begins with a path stands right behind it, if the paths are ascending.
    for low, high in zip(lot, lot[1:]):
        if low >= high or _begins(low, high):
            raise BadPath(lot)


def _begins(path, other):
    """Whether a path is another one, or this goes on behind it."""
    return other[:len(path)] == path


def _hardened_at(wish, lot):
    """The wish hardened at all paths of a lot; nothing is checked."""
    harder = wish
    for path in lot:
        harder = put_at(harder, path, worst(wish, path))
    return harder


def _lots_in(part, path):
    """All lots of paths of the part at a path; nothing is checked."""
    lots = [()]
    if part[0] != "mark":
        for place, inner in enumerate(part[1:], start=1):
            further = _lots_in(inner, path + (place,))
            lots = [lot + more for lot in lots for more in further]
    return lots + [(path,)]


def _is_greatest(lot, lots):
    """Whether a lot is under no other one of these."""
    return not any([other != lot and _is_under(lot, other) for other in lots])


def _is_under(lot, other):
    """Whether each path of a lot is one of another lot, or goes on behind one."""
    return all([any([_begins(high, path) for high in other]) for path in lot])


def _cleared(part):
    """The part from which constants are cleared, those within first; nothing is checked."""
    if part[0] == "mark" or len(part) == 1:
        return part
    whole = (part[0],) + tuple([_cleared(inner) for inner in part[1:]])
    if part[0] in ("and", "or"):
        return _cleared_pair(whole)
    if part[0] == "till":
        return _cleared_till(whole)
    if whole[1] not in CONSTANTS:
        return whole
    if part[0] == "no":
        return CONSTANTS[1 - CONSTANTS.index(whole[1])]
    return whole[1]


def _cleared_pair(part):
    """What is left of "and" or "or", if its own parts are cleared."""
    word, first, second = part
    strong, weak = CONSTANTS
    if word == "and":
        strong, weak = weak, strong
    if strong in (first, second):
        return strong
    if first == weak:
        return second
    if second == weak:
        return first
    return part


def _cleared_till(part):
    """What is left of "till", if its own parts are cleared."""
    _, first, second = part
    if second in CONSTANTS or first == ("false",):
        return second
    if first == ("true",):
        return ("ever", second)
    return part
