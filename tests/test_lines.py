from tests import plain
from tests.helpers import ShardCase, some_shards
from textshards.errors import EmptyText, TooLarge
from textshards.lines import first_states, line_way

WORDS = ("a", "b", "ab", "aab", "abab", "zz")


class FirstStatesTest(ShardCase):
    def test_by_the_words_of_the_document(self):
        for pieces, grain in some_shards(504, 90):
            for word in WORDS:
                states = [plain.line_state(pieces, grain, word, gram) for gram in plain.grams(pieces, grain)]
                expected = tuple(sorted(state for state in states if state))
                self.same(first_states(pieces, grain, word), expected, (pieces, grain, word))

    def test_grain_1(self):
        self.same(first_states(("cab", "a"), 1, "a"), (("", "", 0, ()),))

    def test_a_gram_in_which_the_word_occurs(self):
        self.same(first_states(("abcd",), 3, "bb"), (("ab", "ab", 1, ()), ("bc", "", 0, ()), ("cd", "", 0, ())))
        self.same(first_states(("abcd",), 3, "ab"), (("bc", "", 0, ()), ("cd", "", 0, ())))
        self.same(first_states(("abcd",), 3, "b"), (("cd", "", 0, ()),))
        self.same(first_states(("abc",), 2, "abc"), (("a", "a", 1, ()), ("b", "", 0, ()), ("c", "", 0, ())))
        self.same(first_states(("ab",), 2, "b"), (("a", "a", 0, ()),))
        self.same(first_states(("aaa",), 3, "a"), ())

    def test_a_tail_is_the_longest_end(self):
        self.same(first_states(("aab", "bba"), 3, "x"),
                  (("aa", "aa", 0, ()), ("ab", "b", 0, ()), ("ba", "a", 0, ()), ("bb", "bb", 0, ())))


class LineWayTest(ShardCase):
    def walk(self, pieces, grain, word, read, steps):
        """All texts that go on from what was read: each state is that of the whole text so far."""
        state = plain.line_state(pieces, grain, word, read)
        gram = read[len(read) - grain + 1:]
        for letter in "ab!~x":
            told = (pieces, grain, word, read, letter)
            if letter not in plain.letters_behind(pieces, grain, gram):
                self.same(line_way(pieces, grain, word, state, letter), None, told)
                continue
            expected = plain.line_state(pieces, grain, word, read + letter)
            self.same(line_way(pieces, grain, word, state, letter), expected, told)
            if expected and steps > 1:
                self.walk(pieces, grain, word, read + letter, steps - 1)

    def test_whole_texts(self):
        for pieces, grain in some_shards(505, 40):
            for word in WORDS:
                for gram in plain.grams(pieces, grain):
                    if plain.line_state(pieces, grain, word, gram):
                        self.walk(pieces, grain, word, gram, 6)

    def test_states_that_are_not_reached(self):
        for pieces, grain in some_shards(506, 40):
            tails = sorted(plain.beginnings_of(pieces))
            for word in ("ab", "bab"):
                for gram in plain.grams(pieces, grain):
                    for tail in tails:
                        for matched in range(len(word)):
                            for found in ((), (len(pieces) - 1,), tuple(range(len(pieces)))):
                                told = (pieces, grain, word, (gram, tail, matched, found), "b")
                                self.same(line_way(*told), plain.line_way(*told), told)

    def test_steps(self):
        pieces = ("ab", "bab", "ab")
        self.same(line_way(pieces, 2, "aa", ("a", "a", 1, ()), "b"), ("b", "ab", 0, (0, 2)))
        self.same(line_way(pieces, 2, "aa", ("b", "ab", 0, (0, 2)), "a"), ("a", "ba", 1, (0, 2)))
        self.same(line_way(pieces, 2, "aa", ("a", "ba", 1, (0, 2)), "b"), ("b", "bab", 0, (0, 1, 2)))
        self.same(line_way(pieces, 2, "bab", ("a", "ba", 2, (0, 2)), "b"), None)
        self.same(line_way(pieces, 2, "aa", ("b", "ab", 0, (0, 2)), "b"), None)

    def test_one_piece_at_the_end_of_another(self):
        self.same(line_way(("abc", "bc", "c"), 1, "x", ("", "ab", 0, ()), "c"), ("", "abc", 0, (0, 1, 2)))

    def test_eight_pieces(self):
        pieces = ("ab", "ba") * 4
        self.same(first_states(pieces, 2, "x"), (("a", "a", 0, ()), ("b", "b", 0, ())))
        self.same(line_way(pieces, 2, "x", ("a", "a", 0, ()), "b"), ("b", "ab", 0, (0, 2, 4, 6)))


class LineErrorsTest(ShardCase):
    def both(self, error, pieces, word):
        self.fails(error, first_states, pieces, 2, word)
        self.fails(error, line_way, pieces, 2, word, ("a", "a", 0, ()), "b")

    def test_wrong_words(self):
        self.both(TooLarge, ("ab",), "a" * 61)
        self.both(EmptyText, ("ab",), "")
        self.same(len(first_states(("ab",), 2, "a" * 60)), 2)

    def test_nine_pieces(self):
        self.both(TooLarge, ("ab",) * 9, "a")
        self.both(TooLarge, ("ab",) * 40, "a")

    def test_the_word_before_the_number_of_pieces(self):
        self.both(EmptyText, ("ab",) * 9, "")
