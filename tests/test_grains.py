from tests import plain
from tests.helpers import ShardCase, some_shards
from textshards.certain import decide, example
from textshards.errors import GrainError, TooLarge
from textshards.explaining import explains
from textshards.grains import check_shards, grams_of, letters_after, windows_of
from textshards.growing import certain_words, grown
from textshards.lines import first_states, line_way
from textshards.papers import check_circle_paper, check_line_paper
from textshards.rings import circle_states, circle_way
from textshards.strands import strands

LONG = "a" * 61
MANY = ("a",) * 41

# Pieces, a grain and the error that is due.
WRONG = (
    (("abc",), 0, GrainError),
    (("abc",), -1, GrainError),
    (("abc",), 13, GrainError),
    (("a" * 13,), 13, GrainError),
    (("abc",), 10 ** 30, GrainError),
    ((), 1, GrainError),
    ((), 0, GrainError),
    ((), 13, GrainError),
    (MANY, 1, TooLarge),
    (MANY, 0, GrainError),
    (MANY, 13, GrainError),
    (MANY, 2, TooLarge),
    (("",) * 41, 1, TooLarge),
    (("",), 1, GrainError),
    (("a",), 2, GrainError),
    (("abcde",), 6, GrainError),
    (("a" * 11,), 12, GrainError),
    (("ab", "a"), 2, GrainError),
    (("ab", "cd", "a", "ef"), 2, GrainError),
    (("ab", "cd", "ef", ""), 2, GrainError),
    ((LONG,), 1, TooLarge),
    (("ab", LONG), 2, TooLarge),
    (("ab", LONG, "cd"), 2, TooLarge),
    ((LONG, "a"), 2, TooLarge),
    (("a", LONG), 2, GrainError),
    (("ab", LONG, "a"), 2, TooLarge),
    (("ab", "a", LONG), 2, GrainError),
    (("ab",) * 39 + (LONG,), 2, TooLarge),
    (("ab",) * 39 + ("a",), 2, GrainError),
)

RIGHT = ((("a",), 1), (("a" * 60,), 1), (("a" * 12,), 12), (("a",) * 40, 1), (("a" * 60,) * 40, 12), (("ab", "b"), 1))


class CheckShardsTest(ShardCase):
    def test_the_first_error_that_is_due(self):
        for pieces, grain, error in WRONG:
            self.fails(error, check_shards, pieces, grain)

    def test_shards_at_the_limits(self):
        for pieces, grain in RIGHT:
            self.assertIs(check_shards(pieces, grain), None)

    def test_all_functions_raise_these_errors_first(self):
        for pieces, grain, error in WRONG:
            self.fails(error, windows_of, pieces, grain)
            self.fails(error, grams_of, pieces, grain)
            self.fails(error, letters_after, pieces, grain, "a")
            self.fails(error, explains, pieces, grain, "ab", "circle")
            self.fails(error, explains, pieces, grain, "ab", "other")
            self.fails(error, strands, pieces, grain)
            for word in ("a", "", "a" * 61):
                self.fails(error, circle_states, pieces, grain, word)
                self.fails(error, circle_way, pieces, grain, word, ("", 0), "a")
                self.fails(error, first_states, pieces, grain, word)
                self.fails(error, line_way, pieces, grain, word, ("", "", 0, ()), "a")
                self.fails(error, check_circle_paper, pieces, grain, word, ((), ()))
                self.fails(error, check_line_paper, pieces, grain, word, ())
                for shape in ("circle", "line", "other"):
                    self.fails(error, decide, pieces, grain, word, shape)
                    self.fails(error, grown, pieces, grain, word, shape, 0)
            for shape in ("circle", "line", "other"):
                self.fails(error, example, pieces, grain, shape)
                self.fails(error, certain_words, pieces, grain, 0, shape)


class WindowsTest(ShardCase):
    def shards(self):
        return some_shards(402, 120) + [(("abcabcabcabcd", "bcabcabcabcab"), 12), (("a" * 60,), 5), (("ba", "ab"), 1)]

    def test_example_of_the_interface(self):
        self.same(grams_of(("abab", "bb"), 2), ("a", "b"))

    def test_windows_by_the_words_of_the_document(self):
        for pieces, grain in self.shards():
            self.same(windows_of(pieces, grain), plain.windows(pieces, grain), (pieces, grain))

    def test_grams_by_the_words_of_the_document(self):
        for pieces, grain in self.shards():
            self.same(grams_of(pieces, grain), plain.grams(pieces, grain), (pieces, grain))

    def test_letters_by_the_words_of_the_document(self):
        for pieces, grain in self.shards():
            words = [word for piece in pieces for word in plain.words_in(piece)] + ["zz", "ax", "ba", "bb"]
            for gram in set(words) | set(plain.grams(pieces, grain)) | {""}:
                expected = plain.letters_behind(pieces, grain, gram) if len(gram) == grain - 1 else ""
                self.same(letters_after(pieces, grain, gram), expected, (pieces, grain, gram))

    def test_order_of_the_letters(self):
        self.same(windows_of(("b~!", "aB", "b!"), 2), ("aB", "b!", "b~", "~!"))
        self.same(grams_of(("b~!", "aB", "b!"), 2), ("!", "B", "a", "b", "~"))
        self.same(letters_after(("b~", "bA", "b!", "bz", "bA"), 2, "b"), "!Az~")

    def test_grain_1_has_the_empty_gram_only(self):
        self.same(windows_of(("cab", "b"), 1), ("a", "b", "c"))
        self.same(grams_of(("cab", "b"), 1), ("",))
        self.same(letters_after(("cab", "b"), 1, ""), "abc")
        self.same(letters_after(("cab", "b"), 1, "a"), "")

    def test_words_that_are_no_gram(self):
        for gram in ("", "b", "ca", "abc", "x", "abcab"):
            self.same(letters_after(("abca",), 3, gram), "")
        self.same(letters_after(("abca",), 3, "ab"), "c")
