"""An overlap graph without the edges that others carry."""

from textshards.overlaps import check_graph


def lengths_between(graph):
    """For each pair of nodes the lengths of its edges, as the bits of a number."""
    nodes, edges = graph
    bits = [[0] * len(nodes) for _ in nodes]
    for i, j, length in edges:
        bits[i][j] = bits[i][j] | (1 << length)
    return bits


def carried_lengths(graph):
    """For each pair of nodes the lengths that two edges in a row make, as the bits of a number."""
    nodes, edges = graph
    bits = lengths_between(graph)
    carried = [[0] * len(nodes) for _ in nodes]
    # To add the length of one edge to those of all edges from j to k at once, their bits are moved.
    for i, j, length in edges:
        for k in range(len(nodes)):
            carried[i][k] = carried[i][k] | ((bits[j][k] << length) >> len(nodes[j]))
    return carried


def reduced(graph):
    """The graph without the edges that are carried in it."""
    check_graph(graph)
    nodes, edges = graph
    carried = carried_lengths(graph)
    return nodes, tuple([(i, k, length) for i, k, length in edges if (carried[i][k] >> length) & 1 == 0])
