from tests import plain
from tests.helpers import ShardCase, chance, cut, drawn
from textshards.errors import GraphError, RangeError, TooLarge
from textshards.overlaps import check_graph, free_pieces, overlap_graph
from textshards.reducing import reduced
from textshards.tracing import spelled, traced


def some_pieces(seed, count):
    """Pieces of one letter and more, cut from texts that repeat, so that many are contained or equal."""
    source = chance(seed)
    found = []
    for _ in range(count):
        text = drawn(source, source.choice(("a", "ab", "ab", "abc", "!~")), source.randint(1, 8))
        found.append(cut(source, text + text, source.randint(1, 2), source.randint(1, 6)))
    return found


# Pieces and the error that is due.
WRONG_PIECES = (
    ((), GraphError),
    (("",), GraphError),
    (("ab", "", "cd"), GraphError),
    (("ab", ""), GraphError),
    (("a",) * 41, TooLarge),
    (("a",) * 41 + ("",), GraphError),
    (("a" * 61,), TooLarge),
    (("ab", "a" * 61), TooLarge),
    (("a" * 61, ""), GraphError),
    (("", "a" * 61), GraphError),
)

# Nodes and edges that are no graph.
WRONG_GRAPHS = (
    ((), ()),
    ((), ((0, 0, 1),)),
    (("",), ()),
    (("ab", ""), ()),
    (("ab", "ab"), ()),
    (("ab", "a"), ()),
    (("a", "ab"), ()),
    (("b", "abc"), ()),
    (("ab", "bc", "xbcx"), ()),
    (("ab", "ba"), ((0, 1, 1), (0, 1, 1))),
    (("ab", "ba"), ((1, 0, 1), (0, 1, 1))),
    (("aaba",), ((0, 0, 2), (0, 0, 1))),
    (("ab", "ba"), ((0, 1, 2),)),
    (("ab", "ba"), ((0, 1, 0),)),
    (("ab", "ba"), ((0, 1, -1),)),
    (("ab", "ba"), ((0, 0, 1),)),
    (("ab", "ba"), ((0, 2, 1),)),
    (("ab", "ba"), ((2, 0, 1),)),
    (("ab", "ba"), ((-1, 0, 1),)),
    (("ab", "ba"), ((0, -1, 1),)),
    (("ab", "ba"), ((0, 1, 1), (1, 0, 1), (1, 1, 1))),
    (("aa",), ((0, 0, 2),)),
    (("abab",), ((0, 0, 3),)),
    (("abab",), ((0, 0, 4),)),
    (("xab", "abyyy"), ((0, 1, 3),)),
    (("xxxab", "ab!"), ((0, 1, 3),)),
)


class FreePiecesTest(ShardCase):
    def test_by_the_words_of_the_document(self):
        for pieces in some_pieces(601, 400):
            self.same(free_pieces(pieces), plain.free_pieces(pieces), pieces)

    def test_contained_and_equal_pieces(self):
        self.same(free_pieces(("b", "ab", "abc")), ("abc",))
        self.same(free_pieces(("abc", "b", "ab")), ("abc",))
        self.same(free_pieces(("ab", "ba", "ab", "ba")), ("ab", "ba"))
        self.same(free_pieces(("a", "a", "a")), ("a",))
        self.same(free_pieces(("ba", "ab", "c", "ba")), ("ba", "ab", "c"))
        self.same(free_pieces(("ac", "abc")), ("ac", "abc"))

    def test_errors(self):
        for pieces, error in WRONG_PIECES:
            self.fails(error, free_pieces, pieces)
            for least in (0, 1, 61):
                self.fails(error, overlap_graph, pieces, least)

    def test_limits(self):
        self.same(free_pieces(("a",) * 40), ("a",))
        self.same(free_pieces(("a" * 60, "b" * 60)), ("a" * 60, "b" * 60))


class OverlapGraphTest(ShardCase):
    def test_example_of_the_interface(self):
        self.same(overlap_graph(("abab", "ba"), 1), (("abab",), ((0, 0, 2),)))

    def test_by_the_words_of_the_document(self):
        edges = 0
        for pieces in some_pieces(602, 300):
            for least in (1, 2, 3):
                graph = overlap_graph(pieces, least)
                self.same(graph, plain.overlap_graph(pieces, least), (pieces, least))
                self.assertIs(check_graph(graph), None)
                edges += len(graph[1])
        self.assertGreater(edges, 300)

    def test_pieces_of_one_letter(self):
        self.same(overlap_graph(("a", "b", "a"), 1), (("a", "b"), ()))

    def test_least(self):
        self.same(overlap_graph(("aaa",), 1), (("aaa",), ((0, 0, 1), (0, 0, 2))))
        self.same(overlap_graph(("aaa",), 2), (("aaa",), ((0, 0, 2),)))
        self.same(overlap_graph(("aaa",), 3), (("aaa",), ()))
        self.same(overlap_graph(("a" * 60,), 59), (("a" * 60,), ((0, 0, 59),)))
        self.same(overlap_graph(("a" * 60,), 60), (("a" * 60,), ()))
        for least in (0, -1, 61, 10 ** 20):
            self.fails(RangeError, overlap_graph, ("ab",), least)

    def test_one_piece_at_the_end_of_another_is_no_overlap(self):
        self.same(overlap_graph(("xab", "aby", "bxa"), 1),
                  (("xab", "aby", "bxa"), ((0, 1, 2), (0, 2, 1), (2, 0, 2), (2, 1, 1))))

    def test_many_pieces(self):
        pieces = tuple("a" * size + "b" + "a" * (59 - size) for size in range(10, 50))
        graph = overlap_graph(pieces, 1)
        self.same(graph, plain.overlap_graph(pieces, 1))
        self.assertIs(check_graph(graph), None)


class CheckGraphTest(ShardCase):
    def test_graphs(self):
        for graph in ((("a",), ()), (("ab", "ba"), ()), (("ab", "ba"), ((1, 0, 1),)), (("aaa",), ((0, 0, 2),)),
                      (("xab", "abyyy"), ((0, 1, 2),)), (("a" * 100,), ((0, 0, 99),))):
            self.assertIs(check_graph(graph), None)

    def test_wrong_graphs(self):
        for graph in WRONG_GRAPHS:
            self.fails(GraphError, check_graph, graph)
            self.fails(GraphError, reduced, graph)
            self.fails(GraphError, traced, graph, "ab")
            self.fails(GraphError, traced, graph, "")
            self.fails(GraphError, spelled, graph, ())
            self.fails(GraphError, spelled, graph, ((0, 1, 1), (1, 0, 1)))
