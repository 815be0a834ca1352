from tests import plain
from tests.helpers import ShardCase, chance, cut, drawn, some_shards
from textshards.strands import strands


class StrandsTest(ShardCase):
    def test_example_of_the_interface(self):
        self.same(strands(("abcd", "xbcy"), 2), ("ab", "bc", "cd", "cy", "xb"))

    def test_by_the_words_of_the_document(self):
        for pieces, grain in some_shards(404, 200):
            self.same(strands(pieces, grain), plain.strands(pieces, grain), (pieces, grain))

    def test_over_larger_alphabets(self):
        source = chance(405)
        for _ in range(150):
            grain = source.randint(2, 4)
            text = drawn(source, "abcde", source.randint(grain, 14))
            pieces = cut(source, text + text[:grain], grain, source.randint(1, 6))
            self.same(strands(pieces, grain), plain.strands(pieces, grain), (pieces, grain))

    def test_one_strand(self):
        self.same(strands(("abcdef",), 3), ("abcdef",))
        self.same(strands(("cdef", "abcd", "bcde"), 3), ("abcdef",))

    def test_one_window(self):
        self.same(strands(("abc",), 3), ("abc",))
        self.same(strands(("abc", "xyz"), 3), ("abc", "xyz"))

    def test_rings(self):
        self.same(strands(("cabca",), 3), ("abcab",))
        self.same(strands(("bab",), 2), ("aba",))
        self.same(strands(("aaaa",), 3), ("aaa",))
        self.same(strands(("zyz", "bab", "cc"), 2), ("aba", "cc", "yzy"))

    def test_a_ring_that_is_left_is_no_ring(self):
        self.same(strands(("abcax",), 2), ("abca", "ax"))
        self.same(strands(("xabca",), 2), ("abca", "xa"))
        self.same(strands(("aab",), 2), ("aa", "ab"))
        self.same(strands(("baa",), 2), ("aa", "ba"))

    def test_a_gram_at_the_end_only_or_with_two_behind(self):
        self.same(strands(("ab", "cb", "bd"), 2), ("ab", "bd", "cb"))
        self.same(strands(("ab", "bc", "bd"), 2), ("ab", "bc", "bd"))

    def test_grain_1(self):
        self.same(strands(("aaa",), 1), ("a",))
        self.same(strands(("cab", "bb"), 1), ("a", "b", "c"))

    def test_many_pieces(self):
        source = chance(406)
        text = drawn(source, "abcdefgh", 500)
        pieces = tuple(text[at * 12:at * 12 + 30] for at in range(40))
        self.same(strands(pieces, 2), plain.strands(pieces, 2))
