from tests import plain
from tests.helpers import ShardCase, chance, drawn
from textshards.errors import EmptyText
from textshards.texts import advance, borders, occurrences

TEXTS = plain.texts_over("ab", 7) + plain.texts_over("!a~", 4)
WORDS = plain.texts_over("ab", 4) + plain.texts_over("!a~", 2)


class BordersTest(ShardCase):
    def test_example_of_the_document(self):
        self.same(borders("abaab"), (0, 0, 1, 1, 2))

    def test_empty_text_and_one_letter(self):
        self.same(borders(""), ())
        self.same(borders("x"), (0,))

    def test_by_the_words_of_the_document(self):
        for word in TEXTS:
            expected = []
            for size in range(1, len(word) + 1):
                beginning = word[:size]
                expected.append(max(k for k in range(size) if beginning[:k] == beginning[size - k:]))
            self.same(borders(word), tuple(expected), word)

    def test_long_repetitions(self):
        self.same(borders("a" * 3000), tuple(range(3000)))
        self.same(borders("ab" * 1000 + "b"), (0,) + tuple(range(0, 1999)) + (0,))


class OccurrencesTest(ShardCase):
    def test_by_the_words_of_the_document(self):
        for text in TEXTS:
            for word in WORDS:
                if word:
                    self.same(occurrences(text, word), plain.positions(text, word), (text, word))

    def test_overlapping_occurrences(self):
        self.same(occurrences("aaaa", "aa"), (0, 1, 2))
        self.same(occurrences("abaababaab", "aba"), (0, 3, 5))

    def test_word_in_no_place_or_longer_than_the_text(self):
        self.same(occurrences("abcabc", "ac"), ())
        self.same(occurrences("ab", "abc"), ())
        self.same(occurrences("", "a"), ())

    def test_empty_word(self):
        self.fails(EmptyText, occurrences, "abc", "")
        self.fails(EmptyText, occurrences, "", "")

    def test_random_texts(self):
        source = chance(102)
        for _ in range(200):
            text = drawn(source, "aab", 60)
            word = drawn(source, "aab", source.randint(1, 9))
            self.same(occurrences(text, word), plain.positions(text, word), (text, word))

    def test_many_overlaps_in_a_long_text(self):
        self.same(occurrences("a" * 20000, "a" * 10000), tuple(range(10001)))


class AdvanceTest(ShardCase):
    def test_example_of_the_interface(self):
        self.same(advance("abac", 3, "b"), 2)

    def test_empty_word(self):
        self.same(advance("", 0, "a"), 0)

    def test_each_step_by_the_words_of_the_document(self):
        for word in plain.texts_over("ab", 5) + plain.texts_over("abc", 3):
            for matched in range(len(word) + 1):
                for letter in "abcz":
                    expected = plain.matched_by(word, word[:matched] + letter)
                    self.same(advance(word, matched, letter), expected, (word, matched, letter))

    def test_reading_whole_texts(self):
        for text in plain.texts_over("ab", 6) + plain.texts_over("abc", 4):
            for word in WORDS:
                matched = 0
                for at, letter in enumerate(text):
                    matched = advance(word, matched, letter)
                    self.same(matched, plain.matched_by(word, text[:at + 1]), (text, word))
                    self.assertEqual(matched == len(word), text[:at + 1].endswith(word))
