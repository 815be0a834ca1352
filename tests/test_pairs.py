from tests import plain
from tests.helpers import ShardCase, chance, cut, drawn, some_shards
from textshards.certain import decide
from textshards.errors import EmptyText, GrainError, RangeError, TooLarge
from textshards.explaining import explains
from textshards.pairs import check_pairs, decide_with_pairs, keeps, shortest_with_pairs
from textshards.ranking import shortest_line

LARGE = 10 ** 20
GOOD = ("a", "b", 0, 12)


def some_pairs(source, pieces, letters, size, far, count):
    """Pairs of words with at most size letters, from the pieces or not, at most far letters apart."""
    words = sorted(word for word in set().union(*map(plain.words_in, pieces)) if 1 <= len(word) <= size)
    pairs = []
    for _ in range(count):
        both = [source.choice(words) if source.random() < 0.7 else drawn(source, letters, source.randint(1, size))
                for _ in range(2)]
        low = source.randint(0, far)
        pairs.append((*both, low, source.randint(low, far)))
    return tuple(pairs)


class KeepsTest(ShardCase):
    def test_by_the_words_of_the_document(self):
        source = chance(1602)
        found = {True: 0, False: 0}
        for text in plain.texts_over("ab", 7):
            for _ in range(8):
                low = source.randint(0, 4)
                words = [drawn(source, "ab", source.randint(1, 3)) for _ in range(2)]
                pair = (*words, low, source.randint(low, 5))
                expected = plain.keeps(text, pair)
                self.same(keeps(text, pair), expected, (text, pair))
                found[expected] += 1
        self.assertGreater(min(found.values()), 200)

    def test_edges(self):
        self.same(keeps("ab", ("ab", "ab", 0, 0)), True)
        self.same(keeps("ab", ("ab", "b", 1, 1)), True)
        self.same(keeps("ab", ("ab", "b", 0, 0)), False)
        self.same(keeps("ab", ("b", "a", 0, 12)), False)
        self.same(keeps("axxxxxxxxxxxb", ("a", "b", 12, 12)), True)
        self.same(keeps("axxxxxxxxxxxb", ("a", "b", 0, 11)), False)
        self.same(keeps("", ("a", "a", 0, 12)), False)
        self.same(keeps("x" * 300 + "ab", ("a", "b", 1, 1)), True)


class ByAllTextsTest(ShardCase):
    def explaining(self, pieces, grain, pairs, text):
        self.assertIs(explains(pieces, grain, text, "line"), True)
        self.assertEqual([plain.keeps(text, pair) for pair in pairs], [True] * len(pairs), (text, pairs))

    def lacking(self, pieces, grain, pairs, word, there):
        """The answer for a word, if it is known whether there is a text without it."""
        told = (pieces, grain, pairs, word)
        answer, text = decide_with_pairs(*told)
        if answer == "always":
            self.same((text, there), ((), False), told)
        else:
            self.assertEqual((answer, there), ("lacking", True), told)
            self.explaining(pieces, grain, pairs, text)
            self.assertNotIn(word, text)

    def test_all_texts_up_to_some_length(self):
        source = chance(1603)
        found = 0
        for pieces, grain in some_shards(1603, 200):
            letters = sorted({letter for piece in pieces for letter in piece})
            most = {1: 9, 2: 9, 3: 6}.get(len(letters), 4)
            pairs = some_pairs(source, pieces, "ab", 2, 3, source.randint(0, min(3, 6 - len(pieces))))
            texts = [text for text in plain.explaining(pieces, grain, "line", most)
                     if all(plain.keeps(text, pair) for pair in pairs)]
            shortest = shortest_with_pairs(pieces, grain, pairs)
            if texts:
                self.same(shortest, texts[0], (pieces, grain, pairs))
                found += len(pairs) > 0
            elif shortest is not None:
                self.assertGreater(len(shortest), most)
                self.explaining(pieces, grain, pairs, shortest)
            for word in ("a", "ba", "abb"):
                answer, text = decide_with_pairs(pieces, grain, pairs, word)
                if any(word not in text for text in texts):
                    self.same(answer, "lacking")
                if answer == "lacking":
                    self.explaining(pieces, grain, pairs, text)
                    self.assertNotIn(word, text)
        self.assertGreater(found, 40)

    def test_letter_by_letter(self):
        source = chance(1604)
        found = 0
        for number in range(240):
            grain = number % 4 + 1
            letters = source.choice(("a", "ab", "ab", "abc"))
            pieces = cut(source, drawn(source, letters, source.randint(grain, 12)), grain, source.randint(1, 3))
            far = 2 if letters == "abc" else 5
            pairs = some_pairs(source, pieces, letters, 4, far, source.randint(1, min(4, 6 - len(pieces))))
            expected = plain.shortest_with_pairs(pieces, grain, pairs, ())
            self.same(shortest_with_pairs(pieces, grain, pairs), expected, (pieces, grain, pairs))
            found += expected is not None
            word = some_pairs(source, pieces, letters, 3, 0, 1)[0][0]
            without = plain.shortest_with_pairs(pieces, grain, pairs, (word,))
            self.lacking(pieces, grain, pairs, word, without is not None)
        self.assertGreater(found, 60)

    def test_no_pairs(self):
        for pieces, grain in some_shards(1605, 80):
            self.same(shortest_with_pairs(pieces, grain, ()), shortest_line(pieces, grain), (pieces, grain))
            for word in ("a", "ab", "bba", "zz"):
                there = decide(pieces, grain, word, "line")[0] == "lacking"
                self.lacking(pieces, grain, (), word, there)


class EdgesTest(ShardCase):
    def test_example_of_the_interface(self):
        self.same(shortest_with_pairs(("ab", "ba"), 2, (("ab", "ab", 4, 5),)), "ababab")

    def test_low_equal_to_high(self):
        self.same(shortest_with_pairs(("ab",), 1, (("a", "a", 3, 3),)), "aaba")
        self.same(shortest_with_pairs(("ab",), 1, (("b", "b", 0, 0), ("aa", "b", 4, 4))), "aaaab")

    def test_one_word_for_both_and_low_0(self):
        self.same(shortest_with_pairs(("ab",), 1, (("b", "b", 0, 12),)), "ab")
        self.same(shortest_with_pairs(("ab",), 1, (("bb", "bb", 0, 0),)), "abb")
        self.same(decide_with_pairs(("ab",), 1, (("bb", "bb", 0, 0),), "bb"), ("always", ()))

    def test_a_word_within_the_other(self):
        self.same(shortest_with_pairs(("a", "b"), 1, (("abab", "ba", 1, 1),)), "abab")
        self.same(shortest_with_pairs(("a", "b"), 1, (("ba", "abab", 2, 2),)), "baabab")
        self.same(shortest_with_pairs(("a", "b"), 1, (("bbb", "b", 2, 2),)), "abbb")

    def test_pairs_that_no_line_keeps(self):
        for pairs in ((("a", "b", 0, 0),), (("a", "z", 0, 12),), (("z", "z", 0, 0),), (("ab", "ab", 1, 1),),
                      (GOOD, ("aab", "b", 3, 4))):
            self.same(shortest_with_pairs(("ab", "ba"), 2, pairs), None)
            self.same(decide_with_pairs(("ab", "ba"), 2, pairs, "z"), ("always", ()))

    def test_pairs_that_no_line_keeps_together(self):
        one, other, third = ("x", "b", 2, 2), ("x", "b", 3, 3), ("x", "b", 0, 12)
        self.same(shortest_with_pairs(("xab",), 2, (one,)), "xab")
        self.same(shortest_with_pairs(("xa", "aab"), 2, (other, third)), "xaab")
        self.same(shortest_with_pairs(("aab", "xa"), 2, (one,)), None)
        self.same(shortest_with_pairs(("xa", "ab"), 2, (one,)), "xab")
        self.same(shortest_with_pairs(("xa", "ab", "aa"), 2, (one, other)), None)
        self.same(decide_with_pairs(("xa", "ab", "aa"), 2, (one, other), "z"), ("always", ()))

    def test_both_words_in_the_first_letters(self):
        # The pair is kept before the first window is read.
        self.same(shortest_with_pairs(("abcabcabcabc",), 12, (("ab", "c", 2, 2), ("a", "abc", 3, 3))), "abcabcabcabc")
        self.same(decide_with_pairs(("abcabcabcabc",), 12, (GOOD,), "ca"), ("always", ()))


class ErrorsTest(ShardCase):
    def check(self, error, pieces, grain, pairs, word="a"):
        self.fails(error, check_pairs, pieces, grain, pairs)
        self.fails(error, shortest_with_pairs, pieces, grain, pairs)
        self.fails(error, decide_with_pairs, pieces, grain, pairs, word)

    def test_good_pairs(self):
        for pairs in ((), (GOOD,), (GOOD,) * 5, (("a" * 12, "b" * 12, 12, 12), ("a", "a", 0, 0))):
            self.assertIs(check_pairs(("ab",), 2, pairs), None)
        self.assertIs(check_pairs(("ab",) * 6, 2, ()), None)

    def test_wrong_shards_come_first(self):
        wrong = (("", "", 5, 4),) * 9
        for word in ("a", "", "a" * 61):
            self.check(GrainError, (), 2, wrong, word)
            self.check(GrainError, ("ab",), 0, wrong, word)
            self.check(GrainError, ("ab", "a"), 2, wrong, word)
            self.check(TooLarge, ("ab", "a" * 61), 2, wrong[:1], word)

    def test_too_many_come_before_wrong_pairs(self):
        wrong = (("", "a" * 13, 5, 4),)
        for word in ("a", ""):
            self.check(TooLarge, ("ab",) * 7, 2, (), word)
            self.check(TooLarge, ("ab",) * 6, 2, wrong, word)
            self.check(TooLarge, ("ab",) * 3, 2, (GOOD,) * 4, word)
            self.check(EmptyText, ("ab",) * 5, 2, wrong, word)

    def test_the_errors_of_a_pair(self):
        for pair, error in ((("", "b", 0, 0), EmptyText), (("a", "", 0, 0), EmptyText), (("a" * 13, "", 0, 0), EmptyText),
                            (("", "", 3, 2), EmptyText), (("a" * 13, "b", 0, 0), TooLarge),
                            (("a", "b" * 13, -1, 0), TooLarge), (("a", "b", -1, 0), RangeError),
                            (("a", "b", 3, 2), RangeError), (("a", "b", 0, 13), RangeError),
                            (("a", "b", 13, 13), RangeError), (("a", "b", -5, -3), RangeError),
                            (("a", "b", 0, LARGE), RangeError), (("a", "b", -LARGE, LARGE), RangeError)):
            for word in ("a", ""):
                self.check(error, ("ab",), 2, (pair,), word)
                self.check(error, ("ab",), 2, (GOOD, pair, ("", "", 9, 1)), word)

    def test_wrong_words_come_last(self):
        self.fails(EmptyText, decide_with_pairs, ("ab",), 2, (GOOD,), "")
        self.fails(TooLarge, decide_with_pairs, ("ab",), 2, (GOOD,), "a" * 61)
        self.same(decide_with_pairs(("ab",), 2, (GOOD,), "a" * 60), ("lacking", "ab"))


class LargePairsTest(ShardCase):
    def holds(self, pieces, grain, pairs, words):
        shortest = shortest_with_pairs(pieces, grain, pairs)
        texts = [shortest]
        for word in words:
            answer, text = decide_with_pairs(pieces, grain, pairs, word)
            if answer == "lacking":
                self.assertNotIn(word, text)
                texts.append(text)
        for text in texts:
            self.assertIs(explains(pieces, grain, text, "line"), True)
            self.assertTrue(all(plain.keeps(text, pair) for pair in pairs))
            self.assertGreaterEqual(len(text), len(shortest))
        return shortest

    def test_pieces_of_sixty_letters(self):
        source = chance(1606)
        for letters, grain in (("ab", 1), ("abcd", 1), ("abcd", 2)):
            pieces = tuple(drawn(source, letters, 60) for _ in range(3))
            pairs = tuple((drawn(source, letters, size), drawn(source, letters, size), 12 - size, 12)
                          for size in (1, 3, 12))
            line = self.holds(pieces, grain, pairs, ("aaaaa", pieces[0][7:40], drawn(source, letters, 60)))
            self.assertGreaterEqual(len(line), len(shortest_line(pieces, grain)))

    def test_letters_that_have_to_stand_far_apart(self):
        pairs = tuple((one, other, 12, 12) for one, other in zip("abcde", "jihgf"))
        self.same(self.holds(("abcdefghij",), 1, pairs, ("aa",)), "abcdefghijaajihgf")

    def test_words_of_twelve_letters(self):
        one, other = "abcabcabcabd", "dcbadcbadcba"
        line = self.holds(("abcd", "dcba"), 1, ((one, other, 12, 12),), ("ca",))
        self.assertIn(one + other, line)
        self.same(decide_with_pairs(("abcd", "dcba"), 1, ((one, other, 12, 12),), one + other), ("always", ()))
        self.same(decide_with_pairs(("abcd", "dcba"), 1, ((one, other, 11, 12),), one + other)[0], "lacking")
