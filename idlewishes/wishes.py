"""Wishes, the parts of them, and how these are read."""

from idlewishes.errors import BadPath, BadWish
from idlewishes.forms import MOST_MARK, is_number

WANTS = {
    "true": 0,
    "false": 0,
    "mark": 1,
    "no": 1,
    "and": 2,
    "or": 2,
    "next": 1,
    "till": 2,
    "ever": 1,
    "always": 1,
}
TIMED = ("next", "till", "ever", "always")
MOST_PARTS = 12
MOST_TIMED = 5
MOST_WISHES = 6


def need_wish(wish):
    """The wish itself; BadWish for any value that is none."""
    many = timed = 0
    waiting = [((), wish)]
    while waiting:
        path, part = waiting.pop()
        if not _has_form(part):
            raise BadWish(path)
        many += 1
        if part[0] in TIMED:
            timed += 1
        # Asked at each part: what comes behind the thirteenth is not looked at.
        if many > MOST_PARTS or timed > MOST_TIMED:
            raise BadWish(())
        waiting += _within(path, part)[::-1]
    return wish


def need_wishes(wishes):
    """The wishes themselves; BadWish for any value that is no tuple of 1 to 6 wishes."""
    if not isinstance(wishes, tuple) or not 1 <= len(wishes) <= MOST_WISHES:
        raise BadWish(())
    for number, wish in enumerate(wishes):
        try:
            need_wish(wish)
        except BadWish as wrong:
            raise BadWish((number,) + wrong.path) from None
    return wishes


def need_path(wish, path):
    """The path itself; BadPath for any value that is no path of the wish."""
    need_wish(wish)
    if not is_path(wish, path):
        raise BadPath(path)
    return path


def paths(wish):
    """The ascending tuple of the paths of all parts."""
    need_wish(wish)
    return tuple([path for path, _ in walked(wish)])


def part_at(wish, path):
    """The part at a path."""
    need_path(wish, path)
    part = wish
    for place in path:
        part = part[place]
    return part


def replaced(wish, path, part):
    """The wish with another part at a path; BadWish(()) if it is too great then."""
    need_path(wish, path)
    need_wish(part)
    return need_wish(put_at(wish, path, part))


def is_plain(wish, path):
    """Whether an even number of parts with "no" stands around the part at a path."""
    need_path(wish, path)
    around = 0
    part = wish
    for place in path:
        if part[0] == "no":
            around += 1
        part = part[place]
    return around % 2 == 0


def worst(wish, path):
    """The worst constant of the part at a path."""
    if is_plain(wish, path):
        return ("false",)
    return ("true",)


def hardened(wish, path):
    """The wish with the worst constant at a path."""
    return put_at(wish, path, worst(wish, path))


def timed_parts(wish):
    """The tuple of the unlike timed parts, in the order of their first paths."""
    return unlike_timed(need_wish(wish))


def is_path(wish, value):
    """Whether any value is a path of the wish, which is not checked."""
    if not isinstance(value, tuple):
        return False
    part = wish
    for place in value:
        # What stands in "mark" is no part.
        if part[0] == "mark" or not is_number(place, 1, len(part) - 1):
            return False
        part = part[place]
    return True


def unlike_timed(wish):
    """The tuple of the unlike timed parts, in their order; nothing is checked."""
    found = []
    for _, part in walked(wish):
        if part[0] in TIMED and part not in found:
            found.append(part)
    return tuple(found)


def marks_in(wish):
    """The ascending list of the unlike marks that stand in the wish; nothing is checked."""
    return sorted({part[1] for _, part in walked(wish) if part[0] == "mark"})


def walked(wish):
    """The pairs of each path and the part there, ascending; nothing is checked."""
    found = []
    waiting = [((), wish)]
    while waiting:
        path, part = waiting.pop()
        found.append((path, part))
        waiting += _within(path, part)[::-1]
    return found


def put_at(wish, path, part):
    """The wish with another part at a path; nothing is checked."""
    if path == ():
        return part
    place = path[0]
    inner = put_at(wish[place], path[1:], part)
    return wish[:place] + (inner,) + wish[place + 1:]


def _within(path, part):
    """The pairs of path and part for F and G of a part at a path."""
    if part[0] == "mark":
        return []
    return [(path + (place,), inner) for place, inner in enumerate(part[1:], start=1)]


def _has_form(part):
    """Whether any value is a tuple of a word and as many things as it wants."""
    if not isinstance(part, tuple) or part == ():
        return False
    word = part[0]
    # What is no string perhaps can't be looked up.
    if not isinstance(word, str) or word not in WANTS:
        return False
    if len(part) != 1 + WANTS[word]:
        return False
    return word != "mark" or is_number(part[1], 0, MOST_MARK)
