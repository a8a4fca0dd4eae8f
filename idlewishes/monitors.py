"""What begins of runs tell of wishes already."""

from idlewishes.errors import BadNumber, BadRow
from idlewishes.forms import is_number, is_whole
from idlewishes.keeping import Nodes, bands_behind, can_stay
from idlewishes.machines import need_machine
from idlewishes.wishes import need_wish

WORDS = ("kept", "broken", "open")
MOST_ROW = 2000
MOST_SIZE = 200


class Teller:
    """What is known of a wish behind the begins of a machine; nothing is checked.

    A state behind a begin is a pair: the standing at which it ends, None
    behind (), and for each lot of timed parts that can still be so there
    whether the runs with this lot keep the wish. ways holds the standings
    that can be next to each one, None included. first is the state behind ().
    """

    def __init__(self, machine, wish):
        starts, ways, _ = machine
        nodes = Nodes(machine, wish)
        lasting = _lasting(nodes)
        begins = [node for node in lasting if node[0] in starts]
        self.ways = {None: starts}
        for now, after in enumerate(ways):
            self.ways[now] = after
        self.first = (None, tuple([nodes.so[node] for node in begins]))
        self.sources = _sources(nodes, lasting, ways)
        for start in starts:
            self.sources[(None, start)] = [at for at, node in enumerate(begins) if node[0] == start]

    def further(self, state, then):
        """The state behind a begin that goes on to a standing."""
        now, told = state
        return (then, tuple([told[at] for at in self.sources[(now, then)]]))


def verdict(machine, wish, row):
    """The word of a begin."""
    need_machine(machine)
    need_wish(wish)
    _need_row(machine, row)
    teller = Teller(machine, wish)
    state = teller.first
    for standing in row:
        state = teller.further(state, standing)
    return word_of(state)


def shortest_row(machine, wish, word):
    """The least of the shortest begins with a word, or None."""
    need_machine(machine)
    need_wish(wish)
    _need_word(word)
    teller = Teller(machine, wish)
    rows = {teller.first: ()}
    fresh = [teller.first]
    while fresh and len(rows[fresh[0]]) <= MOST_ROW:
        # All rows of a size come ascending, so the first one is the least.
        for state in fresh:
            if word_of(state) == word:
                return rows[state]
        fresh = _found_behind(teller, rows, fresh)
    return None


def is_always_told(machine, wish):
    """Whether each begin can go on to one that is kept or broken."""
    need_machine(machine)
    need_wish(wish)
    teller = Teller(machine, wish)
    after = _explored(teller)
    # What goes on comes to a band that cannot be left. What is told stays so: there all of a band is told, or none.
    bands = bands_behind(after, [teller.first])
    return all([word_of(band[0]) != "open" or _can_be_left(after, band) for band in bands])


def count_rows(machine, wish, size, word):
    """How many begins of so many standings have a word."""
    need_machine(machine)
    need_wish(wish)
    if not is_number(size, 0, MOST_SIZE):
        raise BadNumber(size)
    _need_word(word)
    teller = Teller(machine, wish)
    after = _explored(teller)
    counts = {teller.first: 1}
    for _ in range(size):
        further = {}
        for state, many in counts.items():
            for then in after[state]:
                further[then] = further.get(then, 0) + many
        counts = further
    return sum([many for state, many in counts.items() if word_of(state) == word])


def word_of(state):
    """The word of a begin behind which a state is."""
    _, told = state
    if all(told):
        return "kept"
    if any(told):
        return "open"
    return "broken"


def _need_row(machine, row):
    """BadRow for any value that is no begin of the machine."""
    if not isinstance(row, (list, tuple)) or len(row) > MOST_ROW:
        raise BadRow(None)
    choices = machine[0]
    for number, standing in enumerate(row):
        if not is_whole(standing) or standing not in choices:
            raise BadRow(number)
        choices = machine[1][standing]


def _need_word(word):
    """BadNumber for any value that is none of the words."""
    # Only strings are compared with the words: another value can be equal to anything.
    if not isinstance(word, str) or word not in WORDS:
        raise BadNumber(word)


def _lasting(nodes):
    """The ascending list of the nodes from which arrows lead on for ever as endless runs do."""
    lasting = {}
    # Backwards: where a band leads is known then.
    for band in reversed(bands_behind(nodes.after, list(nodes.so))):
        if can_stay(nodes, band) or any([then in lasting for node in band for then in nodes.after[node]]):
            for node in band:
                lasting[node] = True
    return sorted(lasting)


def _sources(nodes, lasting, ways):
    """For each way, and each lot that can be so where it leads, the number of the lot that is so then where it begins.

    Lots are numbered, for each standing by itself, as they come in lasting.
    """
    numbers = {}
    many = [0] * len(ways)
    for node in lasting:
        numbers[node] = many[node[0]]
        many[node[0]] += 1
    sources = {(now, then): [0] * many[then] for now, after in enumerate(ways) for then in after}
    # Just one arrow comes to a node from each standing that it can be next to.
    for node in lasting:
        for then in nodes.after[node]:
            if then in numbers:
                sources[(node[0], then[0])][numbers[then]] = numbers[node]
    return sources


def _found_behind(teller, rows, fresh):
    """The states not in rows behind begins that go on by one; rows tells a begin for each of them then."""
    found = []
    for state in fresh:
        for then in teller.ways[state[0]]:
            further = teller.further(state, then)
            if further not in rows:
                rows[further] = rows[state] + (then,)
                found.append(further)
    return found


def _explored(teller):
    """For each state behind any begin the list of those behind begins that go on by one."""
    after = {}
    waiting = [teller.first]
    while waiting:
        state = waiting.pop()
        if state not in after:
            after[state] = [teller.further(state, then) for then in teller.ways[state[0]]]
            waiting += after[state]
    return after


def _can_be_left(after, band):
    """Whether one can go on from a band to another one."""
    members = {state: True for state in band}
    return any([then not in members for state in band for then in after[state]])
