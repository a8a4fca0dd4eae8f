"""What wishes are worth on runs, moment by moment."""

from idlewishes.errors import BadNumber
from idlewishes.forms import is_number
from idlewishes.machines import need_machine, need_run
from idlewishes.wishes import need_wish, walked

LAST_MOMENT = 10 ** 30


def worths(machine, wish, run):
    """For each standing of AHEAD, then of RING, whether the wish is so there."""
    _need_all(machine, wish, run)
    return tuple(worth_row(wish, marks_along(machine, run), len(run[0])))


def keeps_run(machine, wish, run):
    """Whether the run keeps the wish."""
    return worths(machine, wish, run)[0]


def worth_at(machine, wish, run, moment):
    """Whether the wish is so at a moment of the run."""
    row = worths(machine, wish, run)
    if not is_number(moment, 0, LAST_MOMENT):
        raise BadNumber(moment)
    ahead, ring = run
    if moment < len(ahead):
        return row[moment]
    return row[len(ahead) + (moment - len(ahead)) % len(ring)]


def fingerprints(machine, wish, run):
    """The pairs of each path and whether the part there is so at first."""
    _need_all(machine, wish, run)
    marks = marks_along(machine, run)
    back = len(run[0])
    return tuple([(path, worth_row(part, marks, back)[0]) for path, part in walked(wish)])


def marks_along(machine, run):
    """The list of the marks at each standing of the run; nothing is checked."""
    ahead, ring = run
    return [machine[2][standing] for standing in ahead + ring]


def worth_row(part, marks, back):
    """The list of what a part is worth at each moment; nothing is checked.

    marks is a list of the marks that are there at each moment; the moment
    with the number back comes again behind the last one.
    """
    word = part[0]
    if word == "true":
        return [True] * len(marks)
    if word == "false":
        return [False] * len(marks)
    if word == "mark":
        return [part[1] in there for there in marks]
    first = worth_row(part[1], marks, back)
    if word == "no":
        return _opposite(first)
    if word == "next":
        return first[1:] + [first[back]]
    if word == "ever":
        return _till([True] * len(marks), first, back)
    if word == "always":
        return _opposite(_till([True] * len(marks), _opposite(first), back))
    second = worth_row(part[2], marks, back)
    if word == "and":
        return [one and other for one, other in zip(first, second)]
    if word == "or":
        return [one or other for one, other in zip(first, second)]
    return _till(first, second, back)


def _opposite(row):
    """The row of what is not so."""
    return [not so for so in row]


def _till(first, second, back):
    """The row of where second is so then or later, and first is so ahead of that."""
    row = list(second)
    # The last moment looks at the one called back, which the first turn makes right.
    for _ in range(2):
        then = row[back]
        for at in range(len(row) - 1, -1, -1):
            then = second[at] or (first[at] and then)
            row[at] = then
    return row


def _need_all(machine, wish, run):
    """What is raised for the first of the three that is wrong."""
    need_machine(machine)
    need_wish(wish)
    need_run(machine, run)
