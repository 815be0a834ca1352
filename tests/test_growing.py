from tests import plain
from tests.helpers import ShardCase, chance, drawn, some_shards
from textshards.certain import decide, example
from textshards.errors import EmptyText, LackingError, RangeError, ShapeError, TooLarge
from textshards.growing import certain_words, grown

SHAPES = ("circle", "line")


def letters_of(pieces):
    return sorted({letter for piece in pieces for letter in piece})


def certain(pieces, grain, word, shape):
    return decide(pieces, grain, word, shape)[0] == "always"


def grown_by_words(pieces, grain, word, shape, most):
    """The document's words, with one question after the other."""
    for before in (False, True):
        while len(word) < most:
            longer = [letter + word if before else word + letter for letter in letters_of(pieces)]
            longer = [other for other in longer if certain(pieces, grain, other, shape)]
            if not longer:
                break
            word = longer[0]
    return word


class GrownTest(ShardCase):
    def test_by_the_words_of_the_document(self):
        longer = 0
        for pieces, grain in some_shards(507, 60):
            for shape in SHAPES:
                for word in {pieces[0][:1], pieces[0], pieces[-1][-2:], "ba", "z"}:
                    for most in (1, 3, 12):
                        told = (pieces, grain, word, shape, most)
                        if certain(pieces, grain, word, shape):
                            found = grown(*told)
                            self.same(found, grown_by_words(*told), told)
                            longer += len(found) > len(word)
                        else:
                            self.fails(LackingError, grown, *told)
        self.assertGreater(longer, 100)

    def test_up_to_the_end_of_a_line(self):
        self.same(grown(("abcd", "cdef"), 2, "d", "line", 60), "abcdef")
        self.same(grown(("abcd", "cdef"), 2, "d", "line", 4), "cdef")
        self.same(grown(("abcd", "cdef"), 2, "d", "line", 3), "def")
        self.same(grown(("abcd", "cdef"), 2, "d", "line", 1), "d")

    def test_round_and_round_a_circle(self):
        self.same(grown(("abc", "cab"), 2, "b", "circle", 60), "bca" * 20)
        self.same(grown(("abab",), 2, "b", "circle", 5), "babab")

    def test_a_word_that_has_most_letters_at_first(self):
        for most in (1, 2, 3):
            self.same(grown(("abcd", "cdef"), 2, "bcd", "line", most), "bcd")
            self.fails(LackingError, grown, ("abcd", "cdef"), 2, "bda", "line", most)
        self.same(grown(("ab", "ba"), 2, "ab" * 30, "circle", 60), "ab" * 30)

    def test_the_least_of_several_letters(self):
        # Both of the words with one more letter are certain.
        self.same(grown(("abxb", "acxc"), 1, "x", "circle", 2), "xb")
        self.same(grown(("bxba", "cxca"), 1, "x", "line", 3), "xba")
        self.same(grown(("bx", "cx"), 1, "x", "line", 3), "bx")
        self.same(grown(("~x!", "ax"), 1, "x", "circle", 2), "x!")

    def test_shards_that_no_text_explains(self):
        self.same(grown(("cb", "de"), 2, "z", "line", 4), "zbbb")
        self.same(grown(("cb",), 2, "z", "circle", 60), "z" + "b" * 59)
        self.same(grown(("cb",), 2, "zzz", "circle", 2), "zzz")

    def test_errors_in_their_order(self):
        nine = ("ab",) * 9
        for most in (0, -1, 61, 10 ** 9):
            self.fails(RangeError, grown, nine, 2, "q", "line", most)
            self.fails(RangeError, grown, ("ab", "ba"), 2, "ab", "circle", most)
            self.fails(EmptyText, grown, nine, 2, "", "line", most)
            self.fails(TooLarge, grown, nine, 2, "a" * 61, "line", most)
            self.fails(ShapeError, grown, nine, 2, "", "lines", most)
        self.fails(TooLarge, grown, nine, 2, "q", "line", 3)
        self.fails(LackingError, grown, nine[:8], 2, "q", "line", 3)
        self.fails(LackingError, grown, ("ab", "ba"), 2, "q", "circle", 60)

    def test_large_shards(self):
        source = chance(513)
        text = drawn(source, "abcd", 200)
        row = text + text
        pieces = tuple(row[at * 5:at * 5 + 40] for at in range(40))
        for grain in (11, 12):
            self.same(grown(pieces, grain, row[40:50], "circle", 60), row[40:100])
        pieces = tuple(text[at * 20:at * 20 + 60] for at in range(8))
        self.same(grown(pieces, 12, text[180:190], "line", 60), text[140:200])


class CertainWordsTest(ShardCase):
    def test_by_the_words_of_the_document(self):
        several = 0
        for pieces, grain in some_shards(508, 90):
            letters = letters_of(pieces)
            for shape in SHAPES:
                for count in range(1, {1: 9, 2: 6, 3: 4}.get(len(letters), 3)):
                    words = plain.texts_over(letters, count, count)
                    expected = tuple(word for word in words if certain(pieces, grain, word, shape))
                    if example(pieces, grain, shape) is None:
                        expected = ()
                    self.same(certain_words(pieces, grain, count, shape), expected, (pieces, grain, count, shape))
                    several += len(expected) > 1
        self.assertGreater(several, 80)

    def test_no_text(self):
        self.same(certain_words(("ab",), 2, 1, "circle"), ())
        self.same(certain_words(("ab", "cd"), 2, 2, "line"), ())

    def test_longer_words_than_the_text(self):
        self.same(certain_words(("abc",), 2, 3, "line"), ("abc",))
        self.same(certain_words(("abc",), 2, 4, "line"), ())
        self.same(certain_words(("abc", "cab"), 2, 5, "circle"), ("abcab", "bcabc", "cabca"))
        self.same(certain_words(("abc", "cab"), 2, 60, "circle"), ("abc" * 20, "bca" * 20, "cab" * 20))
        self.same(certain_words(("aaa",), 2, 60, "circle"), ("a" * 60,))
        self.same(certain_words(("a" * 60,), 2, 60, "line"), ("a" * 60,))

    def test_errors_in_their_order(self):
        nine = ("ab",) * 9
        for count in (0, -1, 61, 10 ** 9):
            self.fails(ShapeError, certain_words, nine, 2, count, "lines")
            self.fails(RangeError, certain_words, nine, 2, count, "line")
            self.fails(RangeError, certain_words, nine, 2, count, "circle")
        self.fails(TooLarge, certain_words, nine, 2, 1, "line")
        self.same(certain_words(nine[:8], 2, 1, "line"), ("a", "b"))

    def test_large_shards(self):
        source = chance(514)
        text = drawn(source, "abcd", 200)
        row = text + text
        pieces = tuple(row[at * 5:at * 5 + 40] for at in range(40))
        self.same(certain_words(pieces, 12, 50, "circle"), tuple(sorted({row[at:at + 50] for at in range(200)})))
        pieces = tuple(text[at * 20:at * 20 + 60] for at in range(8))
        self.same(certain_words(pieces, 12, 60, "line"), tuple(sorted(text[at:at + 60] for at in range(141))))
        inside = {word for piece in pieces for word in plain.words_in(piece) if len(word) == 12}
        self.same(certain_words(pieces, 2, 12, "line"), tuple(sorted(inside)))
