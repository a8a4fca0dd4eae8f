"""Whether machines keep wishes, and papers that show it."""

from idlewishes.errors import BadPaper
from idlewishes.forms import all_lots, is_ascending, is_number, is_whole
from idlewishes.machines import goes_along, need_machine
from idlewishes.values import marks_along, worth_row
from idlewishes.wishes import need_wish, unlike_timed, walked

WORDS = ("keeps", "fails")


class Nodes:
    """The nodes of a machine and a wish, and the arrows between them; nothing is checked.

    so tells for each node whether the wish is so there, pending the numbers
    of the timed parts that are pending there, after the nodes to which arrows
    lead from it. begins are the nodes of STARTS. All nodes are ascending.
    """

    def __init__(self, machine, wish):
        starts, _, marks = machine
        steps = _steps(wish)
        lots = all_lots(len(unlike_timed(wish)))
        self.so = {}
        self.pending = {}
        brought = {}
        for standing, there in enumerate(marks):
            for lot in lots:
                told = _worths_at(steps, there, lot)
                self.so[(standing, lot)] = told[-1]
                self.pending[(standing, lot)] = _pending(steps, told, lot)
                brought[(standing, lot)] = _brought(steps, told, lot)
        self.begins = [node for node in self.so if node[0] in starts]
        self.after = _arrows(machine, steps, brought)


def keeps(machine, wish):
    """Whether the machine keeps the wish."""
    return failing_run(machine, wish) is None


def failing_run(machine, wish):
    """A run of the machine that does not keep the wish, or None."""
    need_machine(machine)
    need_wish(wish)
    return run_against(machine, wish)


def keep_paper(machine, wish):
    """A paper on whether the machine keeps the wish."""
    need_machine(machine)
    need_wish(wish)
    return paper_on(machine, wish, WORDS)


def check_keep(machine, wish, paper):
    """The word of a paper that holds."""
    need_machine(machine)
    need_wish(wish)
    return judged(machine, wish, paper, WORDS)


def is_kept(machine, wish):
    """Whether the machine keeps the wish; nothing is checked."""
    return run_against(machine, wish) is None


def run_against(machine, wish):
    """A run of the machine that does not keep the wish, or None; nothing is checked."""
    word, told = paper_on(machine, wish, WORDS)
    if word == WORDS[0]:
        return None
    return told


def paper_on(machine, wish, words):
    """A paper that begins with one of these two words; nothing is checked."""
    nodes = Nodes(machine, wish)
    bands = bands_behind(nodes.after, bad_begins(nodes))
    for band in bands:
        if can_stay(nodes, band):
            return (words[1], _run_to(nodes, band))
    return (words[0], _table(nodes, bands))


def judged(machine, wish, paper, words):
    """The word of a paper that holds; the machine and the wish are not checked."""
    if not isinstance(paper, tuple) or len(paper) != 2:
        raise BadPaper("form")
    word, told = paper
    if not isinstance(word, str) or word not in words:
        raise BadPaper("form")
    if word == words[0]:
        holds = _table_holds(machine, wish, told)
    else:
        holds = goes_along(machine, told) and not is_kept_along(machine, wish, told)
    if not holds:
        raise BadPaper(word)
    return word


def is_kept_along(machine, wish, run):
    """Whether the run keeps the wish; nothing is checked."""
    return worth_row(wish, marks_along(machine, run), len(run[0]))[0]


def bands_behind(after, begins):
    """The nodes to which arrows lead from these, parted into bands.

    Arrows lead from each node of a band to each other one of it. No arrow
    leads from a band to one ahead of it.
    """
    order = _left(after, begins)
    ahead = {node: [] for node in order}
    for node in order:
        for then in after[node]:
            ahead[then].append(node)
    seen = {}
    bands = []
    for node in reversed(order):
        if node not in seen:
            bands.append(_band_of(node, ahead, seen))
    return bands


def is_round(after, band):
    """Whether one can go along arrows in a band for ever."""
    return len(band) > 1 or band[0] in after[band[0]]


def can_stay(nodes, band):
    """Whether one can go along arrows in a band for ever, with no timed part pending all the way."""
    return is_round(nodes.after, band) and _spot(nodes, band) is None


def bad_begins(nodes):
    """The nodes of STARTS at which the wish is not so."""
    return [node for node in nodes.begins if not nodes.so[node]]


def _steps(wish):
    """How the worths of the unlike parts are told, each behind its own parts.

    A step is a triple: the word; the mark, or the numbers of the steps of F
    and G; the number of a timed part, or None.
    """
    timed = unlike_timed(wish)
    known = []
    steps = []
    # Each part is walked ahead of its own parts, so backwards it is behind them.
    for _, part in walked(wish)[::-1]:
        if part not in known:
            wants = part[1:]
            if part[0] != "mark":
                wants = tuple([known.index(inner) for inner in wants])
            number = None
            if part in timed:
                number = timed.index(part)
            known.append(part)
            steps.append((part[0], wants, number))
    return steps


def _worths_at(steps, there, lot):
    """For each step whether its part is so at a node with these marks and this lot."""
    told = []
    for word, wants, number in steps:
        if number is None:
            told.append(_untimed(word, wants, told, there))
        else:
            told.append(number in lot)
    return told


def _untimed(word, wants, told, there):
    """Whether a part that is not timed is so where these marks are, if this is told of its own parts."""
    if word == "mark":
        return wants[0] in there
    if word == "no":
        return not told[wants[0]]
    if word == "and":
        return told[wants[0]] and told[wants[1]]
    if word == "or":
        return told[wants[0]] or told[wants[1]]
    return word == "true"


def _timed(word, wants, told, is_brought):
    """Whether a timed part is so, if this is told of its own parts, and brought back from the next node."""
    if word == "next":
        return is_brought
    first = told[wants[0]]
    if word == "ever":
        return first or is_brought
    if word == "always":
        return first and is_brought
    return told[wants[1]] or (first and is_brought)


def _brought(steps, told, lot):
    """The lot of the timed parts that a node brings back along arrows: of "next" if its F is so there."""
    brought = []
    for word, wants, number in steps:
        if number is not None:
            if (word == "next" and told[wants[0]]) or (word != "next" and number in lot):
                brought.append(number)
    return tuple(sorted(brought))


def _pending(steps, told, lot):
    """The ascending tuple of the numbers of the timed parts that are pending at a node."""
    pending = []
    for word, wants, number in steps:
        if word == "always" and number not in lot and told[wants[0]]:
            pending.append(number)
        # What has to come stands last: G of "till", F of "ever".
        if word in ("till", "ever") and number in lot and not told[wants[-1]]:
            pending.append(number)
    return tuple(sorted(pending))


def _arrows(machine, steps, brought):
    """For each node the list of those to which arrows lead from it, ascending."""
    _, ways, marks = machine
    after = {node: [] for node in brought}
    known = {}
    for now, there in enumerate(marks):
        for node, lot in brought.items():
            if node[0] in ways[now]:
                if (there, lot) not in known:
                    known[(there, lot)] = _lot_ahead(steps, there, lot)
                after[(now, known[(there, lot)])].append(node)
    return after


def _lot_ahead(steps, there, brought):
    """The only lot at these marks from which arrows can lead to a node that brings this back."""
    told = []
    lot = []
    for word, wants, number in steps:
        if number is None:
            told.append(_untimed(word, wants, told, there))
        else:
            told.append(_timed(word, wants, told, number in brought))
            if told[-1]:
                lot.append(number)
    return tuple(sorted(lot))


def _band_of(first, ahead, seen):
    """The nodes not seen so far from which arrows lead to this one; they are seen then."""
    band = []
    waiting = [first]
    seen[first] = True
    while waiting:
        node = waiting.pop()
        band.append(node)
        for other in ahead[node]:
            if other not in seen:
                seen[other] = True
                waiting.append(other)
    return band


def _left(after, begins):
    """The nodes to which arrows lead from these, as they are left: each one when all behind it were seen."""
    seen = {}
    order = []
    waiting = [(node, False) for node in begins]
    while waiting:
        node, is_left = waiting.pop()
        if is_left:
            order.append(node)
        elif node not in seen:
            seen[node] = True
            waiting.append((node, True))
            waiting += [(then, False) for then in after[node] if then not in seen]
    return order


def _spot(nodes, band):
    """The first timed part that is pending at all nodes of a band, or None."""
    for number in nodes.pending[band[0]]:
        if all([number in nodes.pending[node] for node in band]):
            return number
    return None


def _table(nodes, bands):
    """The table of a paper, if no run fails: the last band has the least rank."""
    table = []
    for at, band in enumerate(bands):
        spot = None
        if is_round(nodes.after, band):
            spot = _spot(nodes, band)
        table += [(standing, lot, len(bands) - 1 - at, spot) for standing, lot in band]
    return tuple(sorted(table))


def _run_to(nodes, band):
    """The run to a band and round in it, past a node for each timed part at which that is not pending.

    The way to such a node leads along nodes at which the part is pending, half
    of all at the most. So even with sixteen standings, 512 nodes, a run has
    never more than 512 + 5 * 256 standings, as many as it can have.
    """
    inside = {node: True for node in band}
    after = {node: [then for then in nodes.after[node] if then in inside] for node in band}
    ahead = _shortest_way(nodes.after, bad_begins(nodes), inside)
    first = ahead[-1]
    ring = [first]
    for number in nodes.pending[first]:
        ends = {node: True for node in band if number not in nodes.pending[node]}
        if not any([node in ends for node in ring]):
            ring += _shortest_way(after, [ring[-1]], ends)[1:]
    # What leads back to the first node ends with this, which stands in the ring already.
    ring += _shortest_way(after, after[ring[-1]], {first: True})[:-1]
    return (tuple([node[0] for node in ahead[:-1]]), tuple([node[0] for node in ring]))


def _shortest_way(after, begins, ends):
    """The list of as few nodes as can be, along arrows from one of these to one of those; there is one."""
    came = {node: None for node in begins}
    waiting = list(begins)
    while not any([node in ends for node in waiting]):
        further = []
        for node in waiting:
            for then in after[node]:
                if then not in came:
                    came[then] = node
                    further.append(then)
        waiting = further
    way = [node for node in waiting if node in ends][:1]
    while came[way[-1]] is not None:
        way.append(came[way[-1]])
    return way[::-1]


def _table_holds(machine, wish, table):
    """Whether any value is a table that shows that the machine keeps the wish."""
    if not _is_table(table, len(machine[2]), len(unlike_timed(wish))):
        return False
    nodes = Nodes(machine, wish)
    held = {(standing, lot): (rank, spot) for standing, lot, rank, spot in table}
    if not all([node in held for node in bad_begins(nodes)]):
        return False
    return all([_leads_down(nodes, held, node, then) for node in held for then in nodes.after[node]])


def _leads_down(nodes, held, node, then):
    """Whether an arrow from one node to another one is as ranks and spots have to be."""
    if then not in held:
        return False
    rank, spot = held[node]
    if held[then][0] < rank:
        return True
    # None is pending nowhere.
    return held[then] == (rank, spot) and spot in nodes.pending[node] and spot in nodes.pending[then]


def _is_table(value, standings, timed):
    """Whether any value has the form of a table for so many standings and timed parts."""
    if not isinstance(value, tuple) or not all([_is_line(line, standings, timed) for line in value]):
        return False
    return all([low[:2] < high[:2] for low, high in zip(value, value[1:])])


def _is_line(value, standings, timed):
    """Whether any value is a node with a rank and a spot."""
    if not isinstance(value, tuple) or len(value) != 4:
        return False
    standing, lot, rank, spot = value
    if not is_number(standing, 0, standings - 1) or not is_ascending(lot, timed - 1):
        return False
    if not is_whole(rank) or rank < 0:
        return False
    return spot is None or is_number(spot, 0, timed - 1)
