"""Overlaps of pieces, and the graph that they make."""

from textshards.errors import GraphError, RangeError, TooLarge
from textshards.grains import LETTER_LIMIT, PIECE_LIMIT


def check_pieces(pieces):
    """Raise an error for pieces of which no overlap graph is made."""
    if len(pieces) == 0:
        raise GraphError("there are no pieces")
    if "" in pieces:
        raise GraphError("a piece has no letter")
    if len(pieces) > PIECE_LIMIT:
        raise TooLarge(f"there are at most {PIECE_LIMIT} pieces, not {len(pieces)}")
    for piece in pieces:
        if len(piece) > LETTER_LIMIT:
            raise TooLarge(f"a piece has at most {LETTER_LIMIT} letters, not {len(piece)}")


def is_contained(pieces, at):
    """Whether the piece with this index occurs in a longer one, or an equal one stands before it."""
    piece = pieces[at]
    if piece in pieces[:at]:
        return True
    return any([len(other) > len(piece) and piece in other for other in pieces])


def free_pieces(pieces):
    """The pieces that are not contained, in order."""
    check_pieces(pieces)
    return tuple([piece for at, piece in enumerate(pieces) if not is_contained(pieces, at)])


def overlaps_of(one, other, least):
    """The lengths, from least on, in which the end of the one is the beginning of the other, ascending."""
    most = min(len(one), len(other))
    return [length for length in range(least, most) if one.endswith(other[:length])]


def overlap_graph(pieces, least):
    """The free pieces, and the edges of all their overlaps in at least this length."""
    nodes = free_pieces(pieces)
    if not 1 <= least <= LETTER_LIMIT:
        raise RangeError(f"the least overlap is from 1 to {LETTER_LIMIT}, not {least}")
    edges = []
    for i, one in enumerate(nodes):
        for j, other in enumerate(nodes):
            edges.extend([(i, j, length) for length in overlaps_of(one, other, least)])
    return nodes, tuple(edges)


def is_edge(nodes, edge):
    """Whether the edge is an overlap of two nodes, or of a node with itself."""
    i, j, length = edge
    if not (0 <= i < len(nodes) and 0 <= j < len(nodes)):
        return False
    if not 1 <= length < min(len(nodes[i]), len(nodes[j])):
        return False
    return nodes[i].endswith(nodes[j][:length])


def check_graph(graph):
    """Raise GraphError if this is no overlap graph."""
    nodes, edges = graph
    if len(nodes) == 0 or "" in nodes:
        raise GraphError("there are no nodes, or a node has no letter")
    if any([is_contained(nodes, at) for at in range(len(nodes))]):
        raise GraphError("a node is contained in another one")
    if not all([edges[at - 1] < edges[at] for at in range(1, len(edges))]):
        raise GraphError("the edges do not strictly ascend")
    for edge in edges:
        if not is_edge(nodes, edge):
            raise GraphError(f"no overlap {edge}")
