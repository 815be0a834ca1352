from tests import plain
from tests.helpers import ShardCase, chance, drawn
from textshards.common import common_part, count_words, least_missing, longest_repeat
from textshards.errors import RangeError

SMALL = plain.texts_over("ab", 8) + plain.texts_over("!a~", 5)


def random_texts(seed, count):
    source = chance(seed)
    return [drawn(source, source.choice(("ab", "abc", "!AZaz~")), source.randint(8, 40)) for _ in range(count)]


class WordsTest(ShardCase):
    def test_count_words(self):
        for text in SMALL + random_texts(1, 40):
            self.same(count_words(text), len(plain.words_in(text)) - 1, text)
        self.same(count_words(""), 0)
        self.same(count_words("z" * 500), 500)

    def test_longest_repeat(self):
        for text in SMALL + random_texts(2, 40):
            repeats = [word for word in plain.words_in(text) if word == "" or len(plain.positions(text, word)) > 1]
            self.same(longest_repeat(text), plain.longest_of(repeats), text)

    def test_longest_repeat_of_several_the_least(self):
        self.same(longest_repeat("babbab"), "bab")
        self.same(longest_repeat("zyxzyabab"), "ab")
        self.same(longest_repeat("abc"), "")
        self.same(longest_repeat(""), "")
        self.same(longest_repeat("x"), "")
        self.same(longest_repeat("aaaa"), "aaa")

    def test_common_part(self):
        texts = plain.texts_over("ab", 5) + plain.texts_over("!b~", 2)
        for one in texts:
            for other in texts:
                shared = plain.words_in(one) & plain.words_in(other)
                self.same(common_part(one, other), plain.longest_of(shared), (one, other))

    def test_common_part_of_larger_texts(self):
        texts = random_texts(3, 30)
        for one, other in zip(texts, texts[1:]):
            shared = plain.words_in(one) & plain.words_in(other)
            self.same(common_part(one, other), plain.longest_of(shared), (one, other))

    def test_common_part_edges(self):
        self.same(common_part("", ""), "")
        self.same(common_part("abc", ""), "")
        self.same(common_part("", "abc"), "")
        self.same(common_part("abc", "xyz"), "")
        self.same(common_part("abcab", "cabab"), "cab")
        self.same(common_part("xyab", "abxy"), "ab")
        # What repeats within one of the texts alone is no part of the other.
        self.same(common_part("abcabc", "bx"), "b")
        self.same(common_part("bx", "abcabc"), "b")


class LeastMissingTest(ShardCase):
    def test_example_of_the_interface(self):
        self.same(least_missing("abbaab", "ab"), "aaa")

    def test_by_the_words_of_the_document(self):
        texts = plain.texts_over("ab", 7) + plain.texts_over("abc", 4) + random_texts(4, 20)
        for alphabet in ("a", "b", "ab", "ac", "bc", "abc", "z", "!a~"):
            for text in texts:
                words = plain.texts_over(alphabet, 3, 1) + [alphabet * size for size in range(4, len(text) + 2)]
                missing = [word for word in words if word not in plain.words_in(text)]
                if missing and len(missing[0]) <= 3 or len(alphabet) == 1:
                    self.same(least_missing(text, alphabet), missing[0], (text, alphabet))

    def test_empty_text_and_other_letters(self):
        self.same(least_missing("", "ab"), "a")
        self.same(least_missing("xyz", "ab"), "a")
        self.same(least_missing("axb", "ab"), "aa")

    def test_long_text_of_one_letter(self):
        self.same(least_missing("a" * 2000, "a"), "a" * 2001)
        self.same(least_missing("a" * 2000, "ab"), "b")

    def test_all_short_words_occur(self):
        self.same(least_missing("aaababbbaa", "ab"), "aaaa")
        self.same(least_missing("aabba", "ab"), "aaa")

    def test_no_alphabet(self):
        for alphabet in ("", "ba", "aa", "abb", "aba", "~!", "acb", "abca"):
            self.fails(RangeError, least_missing, "abba", alphabet)
            self.fails(RangeError, least_missing, "", alphabet)
