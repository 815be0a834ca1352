from tests import plain
from tests.helpers import ShardCase, chance
from tests.test_overlaps import some_pieces
from textshards.circles import circle_starts
from textshards.errors import EmptyText, RingError
from textshards.explaining import explains
from textshards.overlaps import overlap_graph
from textshards.reducing import reduced
from textshards.tracing import spelled, traced


def some_graphs(seed, count):
    """Overlap graphs, whole ones and some that lack edges."""
    source = chance(seed)
    found = []
    for pieces in some_pieces(seed, count):
        nodes, edges = overlap_graph(pieces, source.choice((1, 1, 2)))
        found.append((nodes, edges))
        found.append((nodes, tuple(edge for edge in edges if source.random() < 0.8)))
    return found


class ReducedTest(ShardCase):
    def test_by_the_words_of_the_document(self):
        fewer = 0
        for graph in some_graphs(603, 150):
            expected = plain.reduced(graph)
            self.same(reduced(graph), expected, graph)
            fewer += len(expected[1]) < len(graph[1])
        self.assertGreater(fewer, 50)

    def test_carried_by_a_node_that_overlaps_itself(self):
        # 2 + 2 - 3 = 1, and 4 + 4 - 6 = 2.
        self.same(reduced((("aaa",), ((0, 0, 1), (0, 0, 2)))), (("aaa",), ((0, 0, 2),)))
        self.same(reduced((("aaa",), ((0, 0, 1),))), (("aaa",), ((0, 0, 1),)))
        self.same(reduced((("ababab",), ((0, 0, 2), (0, 0, 4)))), (("ababab",), ((0, 0, 4),)))

    def test_carried_in_the_graph_that_was_given(self):
        # The edge of 3 letters is carried, and still carries the one of 1 letter, as 3 + 3 - 5 = 1.
        graph = ("aaaaa",), ((0, 0, 1), (0, 0, 3), (0, 0, 4))
        self.same(reduced(graph), (("aaaaa",), ((0, 0, 4),)))
        graph = ("aaaaa",), ((0, 0, 1), (0, 0, 2), (0, 0, 3))
        self.same(reduced(graph), (("aaaaa",), ((0, 0, 2), (0, 0, 3))))

    def test_a_chain(self):
        graph = overlap_graph(("abcd", "bcde", "cdef"), 1)
        self.same(graph[1], ((0, 1, 3), (0, 2, 2), (1, 2, 3)))
        self.same(reduced(graph), (graph[0], ((0, 1, 3), (1, 2, 3))))

    def test_no_edges(self):
        self.same(reduced((("ab", "c"), ())), (("ab", "c"), ()))

    def test_many_pieces(self):
        pieces = tuple("a" * size + "b" + "a" * (59 - size) for size in range(10, 50))
        nodes, edges = overlap_graph(pieces, 28)
        self.same(reduced((nodes, edges[:150])), plain.reduced((nodes, edges[:150])))
        self.assertLess(len(reduced((nodes, edges))[1]), len(edges))


class TracedTest(ShardCase):
    def test_by_the_words_of_the_document(self):
        counts = {True: 0, False: 0}
        for graph in some_graphs(604, 60):
            circles = plain.texts_over("ab", 5, 1) + list(graph[0]) + [node + node for node in graph[0]]
            for circle in circles + [one + other for one in graph[0] for other in graph[0]] + ["abc", "cab", "!~"]:
                expected = plain.traced(graph, circle)
                self.same(traced(graph, circle), expected, (graph, circle))
                counts[expected is None] += 1
        self.assertGreater(min(counts.values()), 50)

    def test_the_reduced_graph_traces_the_same_circles(self):
        count = 0
        for graph in some_graphs(605, 150):
            for circle in plain.texts_over("ab", 6, 1) + ["abc", "acb", "aabc", "abcabc"]:
                expected = traced(graph, circle)
                self.same(traced(reduced(graph), circle), expected, (graph, circle))
                count += expected is not None and reduced(graph) != graph
        self.assertGreater(count, 50)

    def test_a_single_occurrence(self):
        self.same(traced(overlap_graph(("abca",), 1), "abc"), ((0, 0),))
        self.same(traced(overlap_graph(("abca",), 1), "cab"), ((1, 0),))
        self.same(traced(overlap_graph(("abc",), 1), "abc"), None)
        self.same(traced((("abca",), ()), "abc"), None)
        self.same(traced((("aaa",), ((0, 0, 2),)), "a"), ((0, 0),))
        self.same(traced((("aaa",), ((0, 0, 1),)), "a"), None)
        self.same(traced((("aaa",), ((0, 0, 1),)), "aa"), None)

    def test_a_node_longer_than_the_circle(self):
        self.same(traced(overlap_graph(("abababa",), 1), "ab"), ((0, 0),))
        self.same(traced(overlap_graph(("abababa",), 1), "abab"), ((0, 0), (2, 0)))
        self.same(traced(overlap_graph(("abababa",), 5), "ba"), ((1, 0),))
        self.same(traced(overlap_graph(("abababa",), 6), "ab"), None)

    def test_a_node_that_does_not_occur(self):
        self.same(traced(overlap_graph(("abca", "xyx"), 1), "abc"), None)

    def test_a_gap_between_two_nodes(self):
        self.same(traced(overlap_graph(("abc", "cda"), 1), "abcd"), ((0, 0), (2, 1)))
        self.same(traced(overlap_graph(("abc", "cda"), 1), "dabc"), ((1, 0), (3, 1)))
        self.same(traced(overlap_graph(("abc", "cd"), 1), "abcd"), None)
        self.same(traced(overlap_graph(("abc", "cda"), 2), "abcd"), None)

    def test_the_step_from_the_last_one_to_the_first_one(self):
        nodes = ("abc", "cda")
        self.same(traced((nodes, ((0, 1, 1),)), "abcd"), None)
        self.same(traced((nodes, ((1, 0, 1),)), "abcd"), None)
        self.same(traced((nodes, ((0, 1, 1), (1, 0, 1))), "cdab"), ((0, 1), (2, 0)))

    def test_empty_circle(self):
        self.fails(EmptyText, traced, (("ab",), ()), "")


class SpelledTest(ShardCase):
    def test_by_the_words_of_the_document(self):
        count = 0
        for nodes, edges in some_graphs(606, 60):
            for walk in plain.closed_walks((nodes, edges[:12]), 3):
                expected = "".join(nodes[i][:len(nodes[i]) - length] for i, _, length in walk)
                self.same(spelled((nodes, edges), walk), expected, (nodes, walk))
                count += 1
                place = 0
                for i, _, length in walk:
                    self.assertIn(place, circle_starts(expected, nodes[i]), (nodes, walk))
                    place += len(nodes[i]) - length
        self.assertGreater(count, 200)

    def test_walks_of_one_edge(self):
        graph = ("aba",), ((0, 0, 1),)
        self.same(spelled(graph, ((0, 0, 1),)), "ab")
        self.same(spelled(graph, ((0, 0, 1),) * 3), "ababab")
        self.same(spelled((("aaa",), ((0, 0, 2),)), ((0, 0, 2),)), "a")

    def test_walks_of_two_nodes(self):
        graph = overlap_graph(("abc", "cda"), 1)
        self.same(spelled(graph, ((0, 1, 1), (1, 0, 1))), "abcd")
        self.same(spelled(graph, ((1, 0, 1), (0, 1, 1))), "cdab")

    def test_walks_that_are_none(self):
        graph = overlap_graph(("abc", "cda", "aba"), 1)
        self.assertEqual(graph[1], ((0, 1, 1), (1, 0, 1), (1, 2, 1), (2, 0, 1), (2, 2, 1)))
        for walk in ((), ((0, 1, 1),), ((0, 1, 1), (0, 1, 1)), ((0, 1, 1), (1, 2, 1)), ((2, 2, 1), (1, 0, 1)),
                     ((0, 1, 1), (1, 0, 2)), ((0, 0, 1),), ((0, 1, 1), (1, 0, 1), (2, 2, 1)),
                     ((2, 2, 1), (2, 2, 2)), ((3, 3, 1),), ((-1, -1, 1),), ((0, 1, 1), (1, 0, 1), (0, 1, 1))):
            self.fails(RingError, spelled, graph, walk)
        self.same(spelled(graph, ((0, 1, 1), (1, 2, 1), (2, 2, 1), (2, 0, 1))), "abcdabab")

    def test_what_is_spelled_explains_the_pieces_with_all_nodes_on_the_walk(self):
        pieces = ("abcab", "cabd", "bdabc")
        graph = overlap_graph(pieces, 2)
        walk = ((0, 1, 3), (1, 2, 2), (2, 0, 3))
        self.assertTrue(set(walk) <= set(graph[1]))
        circle = spelled(graph, walk)
        self.same(circle, "abcabd")
        self.assertIs(explains(pieces, 3, circle, "circle"), True)
        self.same(traced(reduced(graph), circle), traced(graph, circle))
        self.same(traced(graph, circle), ((0, 0), (2, 1), (4, 2)))
