from tests import plain
from tests.helpers import ShardCase, some_shards
from textshards.errors import EmptyText, TooLarge
from textshards.rings import circle_states, circle_way

WORDS = ("a", "b", "ab", "aab", "abab", "ba!", "zz")


class CircleStatesTest(ShardCase):
    def test_by_the_words_of_the_document(self):
        for pieces, grain in some_shards(502, 60):
            for word in WORDS:
                states = [(gram, k) for gram in plain.grams(pieces, grain) for k in range(len(word))]
                self.same(circle_states(pieces, grain, word), tuple(sorted(states)), (pieces, grain, word))

    def test_grain_1(self):
        self.same(circle_states(("cab",), 1, "xyz"), (("", 0), ("", 1), ("", 2)))

    def test_a_word_at_the_limit(self):
        self.same(len(circle_states(("ab",), 2, "a" * 60)), 120)
        self.same(circle_way(("ab", "aa"), 2, "a" * 60, ("a", 58), "a"), ("a", 59))
        self.same(circle_way(("ab", "aa"), 2, "a" * 60, ("a", 59), "a"), None)

    def test_wrong_words(self):
        for grain in (1, 2):
            self.fails(TooLarge, circle_states, ("ab",), grain, "a" * 61)
            self.fails(EmptyText, circle_states, ("ab",), grain, "")
            self.fails(TooLarge, circle_way, ("ab",), grain, "a" * 61, ("a", 0), "b")
            self.fails(EmptyText, circle_way, ("ab",), grain, "", ("a", 0), "b")


class CircleWayTest(ShardCase):
    def test_by_the_words_of_the_document(self):
        for pieces, grain in some_shards(503, 40):
            for word in WORDS:
                for gram in plain.grams(pieces, grain):
                    for state in [(gram, matched) for matched in range(len(word))]:
                        for letter in "ab!~x":
                            expected = plain.circle_way(pieces, grain, word, state, letter)
                            result = circle_way(pieces, grain, word, state, letter)
                            self.same(result, expected, (pieces, grain, word, state, letter))

    def test_steps(self):
        self.same(circle_way(("abc", "cab"), 2, "bca", ("a", 0), "b"), ("b", 1))
        self.same(circle_way(("abc", "cab"), 2, "bca", ("b", 1), "c"), ("c", 2))
        self.same(circle_way(("abc", "cab"), 2, "bca", ("c", 2), "a"), None)
        self.same(circle_way(("abc", "cab"), 2, "bca", ("c", 0), "a"), ("a", 0))
        self.same(circle_way(("abc", "cab"), 2, "bca", ("c", 0), "b"), None)
        self.same(circle_way(("abc", "cab"), 1, "bca", ("", 1), "b"), ("", 1))
        self.same(circle_way(("abcd",), 4, "ddd", ("abc", 1), "d"), ("bcd", 2))

    def test_more_pieces_than_a_line_may_have(self):
        self.same(circle_states(("ab",) * 40, 2, "x"), (("a", 0), ("b", 0)))
        self.same(circle_way(("ab",) * 40, 2, "x", ("a", 0), "b"), ("b", 0))
