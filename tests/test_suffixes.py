from tests import plain
from tests.helpers import ShardCase, chance, drawn
from textshards.suffixes import common_prefixes, suffix_array, suffix_range

SMALL = plain.texts_over("ab", 8) + plain.texts_over("!a~", 5)


def larger_texts():
    """Texts that are longer than where the ordering of suffixes begins, many of them rich in repetitions."""
    source = chance(201)
    texts = ["a" * 100, "ab" * 40, "ba" * 33 + "b", "abaab" * 12 + "a", "b" + "a" * 60, "a" * 60 + "b"]
    for _ in range(60):
        part = drawn(source, source.choice(("ab", "abc", "!#$&AZaz~")), source.randint(1, 30))
        texts.append(part * source.randint(1, 4) + drawn(source, "ab", source.randint(0, 9)))
    return texts


class SuffixArrayTest(ShardCase):
    def test_example_of_the_interface(self):
        self.same(suffix_array("banana"), (5, 3, 1, 0, 4, 2))

    def test_empty_text_and_one_letter(self):
        self.same(suffix_array(""), ())
        self.same(suffix_array("x"), (0,))

    def test_by_the_words_of_the_document(self):
        for text in SMALL + larger_texts():
            self.same(suffix_array(text), tuple(plain.suffixes(text)), text)

    def test_long_text_of_one_letter(self):
        self.same(suffix_array("z" * 3000), tuple(range(2999, -1, -1)))


class CommonPrefixesTest(ShardCase):
    def test_by_the_words_of_the_document(self):
        for text in SMALL + larger_texts():
            order = plain.suffixes(text)
            expected = [plain.common_beginning(text[one:], text[other:]) for one, other in zip(order, order[1:])]
            self.same(common_prefixes(text), tuple(([0] if text else []) + expected), text)

    def test_empty_text_and_one_letter(self):
        self.same(common_prefixes(""), ())
        self.same(common_prefixes("x"), (0,))
        self.same(common_prefixes("banana"), (0, 1, 3, 0, 0, 2))

    def test_long_text_of_one_letter(self):
        self.same(common_prefixes("z" * 3000), tuple(range(3000)))


class SuffixRangeTest(ShardCase):
    def check(self, text, word):
        order = plain.suffixes(text)
        low, high = suffix_range(text, word)
        self.same(suffix_range(text, word), (low, high))
        self.same(low, len([p for p in order if text[p:] < word]), (text, word))
        begun = [k for k, p in enumerate(order) if text[p:].startswith(word)]
        self.same(tuple(range(low, high)), tuple(begun), (text, word))

    def test_by_the_words_of_the_document(self):
        for text in plain.texts_over("ab", 6) + plain.texts_over("bcd", 3):
            for word in plain.texts_over("ab", 4) + plain.texts_over("abcde", 2):
                self.check(text, word)

    def test_larger_texts(self):
        for text in larger_texts():
            for word in ("a", "b", "ab", "ba", "aab", "~", "!", text, text + "a", text[3:9]):
                self.check(text, word)

    def test_words_that_do_not_occur(self):
        self.same(suffix_range("banana", "ax"), (3, 3))
        self.same(suffix_range("banana", "z"), (6, 6))
        self.same(suffix_range("banana", "!"), (0, 0))
        self.same(suffix_range("", "a"), (0, 0))

    def test_empty_word(self):
        self.same(suffix_range("banana", ""), (0, 6))
        self.same(suffix_range("", ""), (0, 0))
