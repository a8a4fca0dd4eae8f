"""Plain reckonings of nodes, papers, places and lots, word by word as points 14 to 18 and 40 to 43 tell them."""

import itertools

from tests.samples import FALSE, TRUE, plain_reached, plain_runs, plain_worth, plain_worths

TIMED = ("next", "till", "ever", "always")
WORDS = ("true", "false", "mark", "no", "and", "or") + TIMED


def plain_walk(wish, path=()):
    """Each path with the part there, the outer ones first."""
    yield path, wish
    for place, inner in enumerate(wish[1:], start=1):
        if wish[0] != "mark":
            yield from plain_walk(inner, path + (place,))


def plain_timed(wish):
    """The unlike timed parts in the order of their first paths."""
    found = []
    for _, part in sorted(plain_walk(wish), key=lambda pair: pair[0]):
        if part[0] in TIMED and part not in found:
            found.append(part)
    return found


def plain_lots(many):
    """All ascending tuples of numbers below many."""
    return [lot for size in range(many + 1) for lot in itertools.combinations(range(many), size)]


def plain_so(machine, timed, part, node):
    """Whether a part is so at a node, by its lot and its marks."""
    standing, lot = node
    word = part[0]
    if word in TIMED:
        return timed.index(part) in lot
    if word in ("true", "false"):
        return word == "true"
    if word == "mark":
        return part[1] in machine[2][standing]
    told = [plain_so(machine, timed, inner, node) for inner in part[1:]]
    return {"no": not told[0], "and": all(told), "or": any(told)}[word]


def plain_is_arrow(machine, timed, node, then):
    """Whether an arrow leads from a node to another one."""
    if then[0] not in machine[1][node[0]]:
        return False
    for number, part in enumerate(timed):
        first = plain_so(machine, timed, part[1], node)
        there = number in then[1]
        wanted = {
            "next": plain_so(machine, timed, part[1], then),
            "till": plain_so(machine, timed, part[-1], node) or (first and there),
            "ever": first or there,
            "always": first and there,
        }[part[0]]
        if (number in node[1]) != wanted:
            return False
    return True


def plain_is_pending(machine, timed, number, node):
    """Whether a timed part is pending at a node."""
    part = timed[number]
    if part[0] == "next":
        return False
    so = plain_so(machine, timed, part[-1], node)
    if part[0] == "always":
        return number not in node[1] and so
    return number in node[1] and not so


def plain_nodes(machine, timed):
    """All nodes."""
    return [(standing, lot) for standing in range(len(machine[2])) for lot in plain_lots(len(timed))]


def plain_table_holds(machine, wish, table):
    """Whether a tuple of quadruples of integers, lots and spots is a table as point 16 wants it."""
    timed = plain_timed(wish)
    nodes = plain_nodes(machine, timed)
    there = [line[:2] for line in table]
    if there != sorted(set(there)) or not set(there) <= set(nodes):
        return False
    for standing, lot in nodes:
        if standing in machine[0] and not plain_so(machine, timed, wish, (standing, lot)):
            if (standing, lot) not in there:
                return False
    held = {line[:2]: line[2:] for line in table}
    for node, (rank, spot) in held.items():
        if rank < 0 or spot is not None and not 0 <= spot < len(timed):
            return False
        for then in nodes:
            if not plain_is_arrow(machine, timed, node, then):
                continue
            if then not in held:
                return False
            lesser = held[then][0] < rank
            alike = held[then] == (rank, spot) and spot is not None
            if not lesser and not (
                alike and all(plain_is_pending(machine, timed, spot, end) for end in (node, then))
            ):
                return False
    return True


def plain_keeps(machine, wish, most):
    """Whether all runs of at most so many standings keep a wish."""
    return all(plain_worths(machine, wish, run)[0] for run in plain_runs(machine, most))


def plain_put(wish, path, part):
    """The wish with another part at a path."""
    if path == ():
        return part
    return tuple(
        plain_put(inner, path[1:], part) if place == path[0] else inner for place, inner in enumerate(wish)
    )


def plain_is_plain(wish, path):
    """Whether a part is read plainly."""
    around = [part for at, part in plain_walk(wish) if len(at) < len(path) and path[:len(at)] == at]
    return [part[0] for part in around].count("no") % 2 == 0


def plain_hardened(wish, lot):
    """The wish with the worst constants at some paths."""
    harder = wish
    for path in lot:
        harder = plain_put(harder, path, FALSE if plain_is_plain(wish, path) else TRUE)
    return harder


def plain_places(wish, part):
    """All paths at which a part stands."""
    return tuple(sorted(path for path, inner in plain_walk(wish) if inner == part))


def plain_filled(wish, part, other):
    """The wish with something else wherever a part stands."""
    if wish == part:
        return other
    if wish[0] == "mark":
        return wish
    return (wish[0], *(plain_filled(inner, part, other) for inner in wish[1:]))


def plain_doubled(machine):
    """The machine doubled."""
    starts, ways, marks = machine
    many = 2 * len(marks)
    return (
        tuple(now for now in range(many) if now // 2 in starts),
        tuple(tuple(then for then in range(many) if then // 2 in ways[now // 2]) for now in range(many)),
        tuple(marks[now // 2] + ((4,) if now % 2 else ()) for now in range(many)),
    )


def plain_marked(machine, lot):
    """The machine with the free mark at some standings."""
    starts, ways, marks = machine
    return starts, ways, tuple(there + ((4,) if now in lot else ()) for now, there in enumerate(marks))


def plain_begins(path, other):
    """Whether a path begins another one, or is it."""
    return len(path) <= len(other) and all(one == two for one, two in zip(path, other))


def plain_path_lots(wish):
    """All lots of paths of a wish."""
    everywhere = sorted(path for path, _ in plain_walk(wish))
    found = [()]
    for path in everywhere:
        found += [lot + (path,) for lot in found if not any(plain_begins(at, path) for at in lot)]
    return sorted(found)


def plain_is_under(lot, other):
    """Whether a lot is under another one."""
    return all(any(plain_begins(at, path) for at in other) for path in lot)


def plain_cleared(wish):
    """The wish from which constants are cleared, rule by rule."""
    word = wish[0]
    if word in ("true", "false", "mark"):
        return wish
    told = [plain_cleared(inner) for inner in wish[1:]]
    constants = (TRUE, FALSE)
    if word == "no" and told[0] in constants:
        return FALSE if told[0] == TRUE else TRUE
    if word == "and" and FALSE in told:
        return FALSE
    if word == "or" and TRUE in told:
        return TRUE
    if word == "and" and TRUE in told:
        return told[1] if told[0] == TRUE else told[0]
    if word == "or" and FALSE in told:
        return told[1] if told[0] == FALSE else told[0]
    if word == "till" and (told[1] in constants or told[0] == FALSE):
        return told[1]
    if word == "till" and told[0] == TRUE:
        return ("ever", told[1])
    if word in ("next", "ever", "always") and told[0] in constants:
        return told[0]
    return (word, *told)


def plain_mark_runs(marks, most):
    """All runs of marks of at most so many moments with these marks alone, the shorter ones first."""
    lots = [tuple(marks[at] for at in lot) for lot in plain_lots(len(marks))]
    for many in range(1, most + 1):
        for row in itertools.product(lots, repeat=many):
            for back in range(many):
                yield row[:back], row[back:]


def plain_keeps_marks(wish, run):
    """Whether a run of marks keeps a wish."""
    ahead, ring = run
    return plain_worth(ahead + ring, len(ahead), wish, 0)


def plain_marks(*wishes):
    """The ascending list of the marks that stand in some wishes."""
    return sorted({part[1] for wish in wishes for _, part in plain_walk(wish) if part[0] == "mark"})


def plain_timed_together(one, other):
    """How many unlike timed parts two wishes have together."""
    return len(set(plain_timed(one)) | set(plain_timed(other)))


def plain_turned(machine, standing, mark):
    """The machine with a mark turned at a standing."""
    starts, ways, marks = machine
    return starts, ways, tuple(
        tuple(sorted(set(there) ^ {mark})) if now == standing else there for now, there in enumerate(marks)
    )


def plain_with_way(machine, one, other):
    """The machine with one more way."""
    starts, ways, marks = machine
    return starts, tuple(
        tuple(sorted(set(after) | {other})) if now == one else after for now, after in enumerate(ways)
    ), marks


def plain_begins_of(machine, size):
    """All begins of so many standings, ascending."""
    rows = [()]
    for _ in range(size):
        rows = [row + (then,) for row in rows for then in (machine[1][row[-1]] if row else machine[0])]
    return rows


def plain_lasting(machine, timed):
    """The nodes that lie on endless ways on which each timed part is again and again not pending.

    What is left over when nodes are taken away that lead to no node any more
    at which some timed part is not pending.
    """
    left = set(plain_nodes(machine, timed))
    arrows = {
        node: [then for then in left if plain_is_arrow(machine, timed, node, then)] for node in left
    }
    pending = {(node, at): plain_is_pending(machine, timed, at, node) for node in left for at in range(len(timed))}
    while True:
        before = set(left)
        for at in [None, *range(len(timed))]:
            ends = {node for node in left if at is None or not pending[(node, at)]}
            good = set()
            while True:
                more = {
                    node for node in left - good if any(then in left and then in ends | good for then in arrows[node])
                }
                if not more:
                    break
                good |= more
            left = good
        if left == before:
            return left


class PlainTeller:
    """The words of begins, by the pairs of lots of lots as point 61 tells them."""

    def __init__(self, machine, wish):
        self.machine = machine
        self.wish = wish
        self.timed = plain_timed(wish)
        self.lasting = plain_lasting(machine, self.timed)
        self.known = {}

    def pair(self, row):
        """The lots that can be so at the end of a begin: those of runs that keep the wish, and of those that do not."""
        row = tuple(row)
        if row in self.known:
            return self.known[row]
        here = {lot for standing, lot in self.lasting if standing == row[-1]}
        if len(row) == 1:
            kept = {lot for lot in here if plain_so(self.machine, self.timed, self.wish, (row[-1], lot))}
            told = (kept, here - kept)
        else:
            told = tuple(
                {
                    lot for lot in here
                    if any(plain_is_arrow(self.machine, self.timed, (row[-2], old), (row[-1], lot)) for old in lots)
                }
                for lots in self.pair(row[:-1])
            )
        self.known[row] = told
        return told

    def word(self, row):
        """The word of a begin."""
        if len(row) == 0:
            words = {self.word((start,)) for start in self.machine[0]}
            return words.pop() if len(words) == 1 else "open"
        kept, broken = self.pair(row)
        if kept and broken:
            return "open"
        return "kept" if kept else "broken"

    def is_always_told(self):
        """Whether each begin can go on to one that is kept or broken: begins with equal pairs are looked at once."""
        def key(row):
            return row[-1], *(tuple(sorted(lots)) for lots in self.pair(row))

        rows = {}
        after = {}
        waiting = [(start,) for start in self.machine[0]]
        while waiting:
            row = waiting.pop()
            if key(row) not in rows:
                rows[key(row)] = row
                further = [row + (then,) for then in self.machine[1][row[-1]]]
                after[key(row)] = [key(longer) for longer in further]
                waiting += further
        good = {at for at, row in rows.items() if self.word(row) != "open"}
        for _ in rows:
            good |= {at for at in rows if any(then in good for then in after[at])}
        return len(good) == len(rows)


def plain_unrolled(machine, row):
    """What goes along a begin once, and then on as the machine does; it may have many standings."""
    starts, ways, marks = machine
    many = len(marks)
    chain = tuple((many + at + 1,) for at in range(len(row) - 1)) + (ways[row[-1]],)
    return (many,), ways + chain, marks + tuple(marks[now] for now in row)


def plain_reached_pairs(machine):
    """All pairs of a standing to which runs come and a mark."""
    return tuple((standing, mark) for standing in plain_reached(machine) for mark in range(4))
