"""Circles that an overlap graph traces and spells."""

from textshards.circles import check_circle, circle_starts
from textshards.errors import RingError
from textshards.overlaps import check_graph


def traced(graph, circle):
    """The pairs (position, node) of all nodes in the circle, if edges lead round it, otherwise None."""
    check_graph(graph)
    check_circle(circle)
    nodes, edges = graph
    starts = [circle_starts(circle, node) for node in nodes]
    if () in starts:
        return None
    places = sorted([(at, node) for node, found in enumerate(starts) for at in found])
    known = {edge: True for edge in edges}
    for number, (at, node) in enumerate(places):
        # Behind the last place the first one follows, one turn later.
        further, other = places[(number + 1) % len(places)]
        step = further - at if further > at else further - at + len(circle)
        if (node, other, len(nodes[node]) - step) not in known:
            return None
    return tuple(places)


def check_walk(graph, walk):
    """Raise RingError for edges that do not lead round in the graph."""
    if len(walk) == 0:
        raise RingError("a walk has at least one edge")
    known = {edge: True for edge in graph[1]}
    for number, edge in enumerate(walk):
        if edge not in known:
            raise RingError(f"no edge {edge} in the graph")
        # The edge before the first one is the last one.
        if walk[number - 1][1] != edge[0]:
            raise RingError(f"the edge {edge} does not begin where the one before ends")


def spelled(graph, walk):
    """The circle that the edges of the walk spell."""
    check_graph(graph)
    check_walk(graph, walk)
    nodes, _ = graph
    return "".join([nodes[i][:len(nodes[i]) - length] for i, _, length in walk])
