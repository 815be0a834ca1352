from tests import plain
from tests.helpers import ShardCase, chance, drawn
from textshards.errors import EmptyText, RangeError
from textshards.tolerant import mismatches, near_starts, tolerant_overlaps


class MismatchesTest(ShardCase):
    def test_by_the_words_of_the_document(self):
        for one in plain.texts_over("ab", 5):
            for other in plain.texts_over("ab", 5):
                if len(one) == len(other):
                    self.same(mismatches(one, other), plain.differing(one, other))
                else:
                    self.fails(RangeError, mismatches, one, other)

    def test_long_texts(self):
        self.same(mismatches("ab" * 500, "ba" * 500), 1000)
        self.same(mismatches("", ""), 0)


class NearStartsTest(ShardCase):
    def holds(self, text, word, most):
        expected = [p for p in range(len(text) - len(word) + 1) if plain.differing(text[p:p + len(word)], word) <= most]
        self.same(near_starts(text, word, most), tuple(expected), (text, word, most))

    def test_by_the_words_of_the_document(self):
        for text in plain.texts_over("ab", 6):
            for word in plain.texts_over("ab", 3, 1) + ["c", "ac", "abab"]:
                for most in (0, 1, 2, 5):
                    self.holds(text, word, most)

    def test_long_texts(self):
        source = chance(1403)
        for letters in ("ab", "abcd"):
            text = drawn(source, letters, 500)
            for size in (1, 8, 60, 500):
                for most in (0, 3, size // 2, size):
                    self.holds(text, drawn(source, letters, size), most)

    def test_a_word_longer_than_the_text(self):
        self.same(near_starts("ab", "abc", 9), ())
        self.same(near_starts("", "a", 9), ())
        self.same(near_starts("ab", "ab", 0), (0,))

    def test_errors_in_their_order(self):
        for text in ("", "ab"):
            self.fails(EmptyText, near_starts, text, "", 0)
            self.fails(EmptyText, near_starts, text, "", -1)
            self.fails(RangeError, near_starts, text, "abc", -1)
            self.fails(RangeError, near_starts, text, "a", -10 ** 20)


class TolerantOverlapsTest(ShardCase):
    def holds(self, one, other, least, most):
        expected = []
        for length in range(least, 1000):
            if length < len(one) and length < len(other):
                count = plain.differing(one[len(one) - length:], other[:length])
                if count <= most:
                    expected.append((length, count))
        self.same(tolerant_overlaps(one, other, least, most), tuple(expected), (one, other, least, most))

    def test_by_the_words_of_the_document(self):
        for one in plain.texts_over("ab", 4):
            for other in plain.texts_over("ab", 4):
                for least in (1, 2, 4):
                    for most in (0, 1, 3):
                        self.holds(one, other, least, most)

    def test_long_texts(self):
        source = chance(1404)
        for letters in ("a", "ab", "abcd"):
            one, other = drawn(source, letters, 150), drawn(source, letters, 120)
            for least, most in ((1, 0), (1, 200), (60, 40), (119, 120), (120, 120)):
                self.holds(one, other, least, most)
                self.holds(other, one, least, most)

    def test_a_least_overlap_as_long_as_a_text(self):
        self.same(tolerant_overlaps("aba", "aba", 3, 9), ())
        self.same(tolerant_overlaps("aba", "abaab", 2, 9), ((2, 2),))
        self.same(tolerant_overlaps("a", "a", 1, 0), ())
        self.same(tolerant_overlaps("", "abc", 1, 0), ())
        self.same(tolerant_overlaps("aa", "aa", 10 ** 20, 0), ())

    def test_wrong_numbers(self):
        for least, most in ((0, 0), (-1, 5), (1, -1), (0, -1), (-10 ** 20, 0), (1, -10 ** 20)):
            self.fails(RangeError, tolerant_overlaps, "ab", "ab", least, most)
            self.fails(RangeError, tolerant_overlaps, "", "", least, most)
