"""Machines, and the runs of them."""

from idlewishes.errors import BadMachine, BadRun
from idlewishes.forms import MOST_MARK, is_ascending, is_number

MOST_STANDINGS = 8
MOST_TOGETHER = 2000


def need_machine(machine):
    """The machine itself; BadMachine for any value that is none."""
    if not isinstance(machine, tuple) or len(machine) != 3:
        raise BadMachine(())
    starts, ways, marks = machine
    # Only MARKS tell how many standings there are, so they come first.
    _need_marks(marks)
    if not _are_standings(starts, len(marks)):
        raise BadMachine((0,))
    _need_ways(ways, len(marks))
    return machine


def need_run(machine, run):
    """The run itself; BadRun for any value that is no run of the machine."""
    if not is_run(machine, run):
        raise BadRun(run)
    return run


def is_run(machine, value):
    """Whether any value is a run of the machine."""
    return goes_along(need_machine(machine), value)


def goes_along(machine, value):
    """Whether any value is a run of the machine; the machine is not checked."""
    starts, ways, marks = machine
    if not is_pair_of_rows(value):
        return False
    ahead, ring = value
    row = ahead + ring
    if not all([is_number(standing, 0, len(marks) - 1) for standing in row]):
        return False
    if row[0] not in starts:
        return False
    steps = list(zip(row, row[1:] + ring[:1]))
    return all([then in ways[now] for now, then in steps])


def is_pair_of_rows(value):
    """Whether any value is a pair of tuples as long as those of a run."""
    if not isinstance(value, tuple) or len(value) != 2:
        return False
    ahead, ring = value
    if not isinstance(ahead, tuple) or not isinstance(ring, tuple):
        return False
    return len(ring) > 0 and len(ahead) + len(ring) <= MOST_TOGETHER


def reached(machine):
    """The ascending tuple of the standings to which runs come."""
    starts, ways, _ = need_machine(machine)
    found = list(starts)
    waiting = list(starts)
    while waiting:
        now = waiting.pop()
        for then in ways[now]:
            if then not in found:
                found.append(then)
                waiting.append(then)
    return tuple(sorted(found))


def shortest_run(machine):
    """The least of the runs with as few standings as can be."""
    starts, ways, _ = need_machine(machine)
    rows = [(start,) for start in starts]
    closed = _closed(ways, rows)
    # A row that comes to a standing twice was closed there: so this ends soon.
    while not closed:
        rows = [row + (then,) for row in rows for then in ways[row[-1]]]
        closed = _closed(ways, rows)
    return min(closed)


def _closed(ways, rows):
    """All runs that go along just one of the rows before they come back."""
    return [
        (row[:at], row[at:])
        for row in rows
        for at, standing in enumerate(row)
        if standing in ways[row[-1]]
    ]


def _need_marks(marks):
    """BadMachine unless this can be the MARKS of a machine."""
    if not isinstance(marks, tuple) or not 1 <= len(marks) <= MOST_STANDINGS:
        raise BadMachine((2,))
    for number, there in enumerate(marks):
        if not is_ascending(there, MOST_MARK):
            raise BadMachine((2, number))


def _need_ways(ways, many):
    """BadMachine unless this can be the WAYS of a machine of so many standings."""
    if not isinstance(ways, tuple) or len(ways) != many:
        raise BadMachine((1,))
    for number, after in enumerate(ways):
        if not _are_standings(after, many):
            raise BadMachine((1, number))


def _are_standings(value, many):
    """Whether any value is an ascending tuple of one or more of so many standings."""
    return is_ascending(value, many - 1) and len(value) > 0
