"""Runs that do not keep wishes, with as few standings as can be."""

from idlewishes.keeping import Nodes, bad_begins, bands_behind, can_stay
from idlewishes.machines import MOST_TOGETHER, need_machine
from idlewishes.wishes import hardened, need_wish


def shortest_failing(machine, wish):
    """A run with as few standings as any that does not keep the wish, or None."""
    need_machine(machine)
    need_wish(wish)
    return _shortest_against(machine, wish)


def shortest_interesting(machine, wish, path):
    """A run with as few standings as any that does not keep the wish hardened at a path, or None."""
    need_machine(machine)
    return _shortest_against(machine, hardened(wish, path))


def _shortest_against(machine, wish):
    """A run with as few standings as any that does not keep the wish, or None; nothing is checked."""
    nodes = Nodes(machine, wish)
    inside = _inside(nodes)
    rows = _rows_ahead(nodes)
    best = None
    most = MOST_TOGETHER
    # The same parts are so each time when a run comes round, so its nodes come back where its standings do:
    # a shortest run is a shortest way of nodes to a shortest ring of nodes.
    for first, ahead in rows.items():
        if first in inside and len(ahead) < most:
            ring = _shortest_ring(nodes, inside, first, most - len(ahead))
            if ring is not None:
                best = (ahead, ring)
                most = len(ahead) + len(ring) - 1
    return best


def _inside(nodes):
    """For each node round which a run can go for ever, the nodes of its band to which arrows lead from it."""
    inside = {}
    for band in bands_behind(nodes.after, bad_begins(nodes)):
        if can_stay(nodes, band):
            members = {node: True for node in band}
            for node in band:
                inside[node] = [then for then in nodes.after[node] if then in members]
    return inside


def _rows_ahead(nodes):
    """For each node to which bad begins lead the standings of a shortest way ahead of it; the shorter ones first."""
    rows = {node: () for node in bad_begins(nodes)}
    fresh = list(rows)
    while fresh:
        further = []
        for node in fresh:
            for then in nodes.after[node]:
                if then not in rows:
                    rows[then] = rows[node] + (node[0],)
                    further.append(then)
        fresh = further
    return rows


def _shortest_ring(nodes, inside, first, most):
    """The standings of a shortest ring from a node on, at most so many, or None.

    On the way it is held which parts were pending at all nodes so far: when
    the ring closes there must be none.
    """
    rows = {(first, nodes.pending[first]): (first[0],)}
    fresh = list(rows)
    while fresh and len(rows[fresh[0]]) <= most:
        further = []
        for stage in fresh:
            node, left = stage
            if left == () and first in inside[node]:
                return rows[stage]
            for then in inside[node]:
                beyond = (then, tuple([number for number in left if number in nodes.pending[then]]))
                if beyond not in rows:
                    rows[beyond] = rows[stage] + (then[0],)
                    further.append(beyond)
        fresh = further
    return None
