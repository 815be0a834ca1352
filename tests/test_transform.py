from tests import plain
from tests.helpers import ShardCase, chance, drawn
from textshards.errors import EmptyText, TransformError
from textshards.transform import backward, restore, runs_of, transform

SMALL = plain.texts_over("ab", 8) + plain.texts_over("!a~", 5)


def larger_texts():
    source = chance(301)
    texts = ["a" * 50, "ab" * 25, "abaab" * 9, "banana" * 5 + "!"]
    for _ in range(60):
        texts.append(drawn(source, source.choice(("ab", "abc", "!AZaz~")), source.randint(8, 60)))
    return texts


class TransformTest(ShardCase):
    def test_example_of_the_interface(self):
        self.same(transform("banana"), ("annbaa", 4))

    def test_empty_text_and_one_letter(self):
        self.same(transform(""), ("", 0))
        self.same(transform("x"), ("x", 1))

    def test_by_the_words_of_the_document(self):
        for text in SMALL + larger_texts():
            self.same(transform(text), plain.transformed(text), text)


class RestoreTest(ShardCase):
    def test_all_transforms_are_restored(self):
        for text in SMALL + larger_texts():
            self.same(restore(*plain.transformed(text)), text)

    def test_all_pairs_over_a_small_alphabet(self):
        known = {plain.transformed(text): text for text in plain.texts_over("ab", 7) + plain.texts_over("abc", 4)}
        for column in plain.texts_over("ab", 7) + plain.texts_over("abc", 4):
            for place in range(-3, len(column) + 4):
                if (column, place) in known:
                    self.same(restore(column, place), known[column, place])
                else:
                    self.fails(TransformError, restore, column, place)

    def test_wrong_places(self):
        for place in (-1, -6, 0, 7, 8, 100, -10 ** 30, 10 ** 30):
            self.fails(TransformError, restore, "annbaa", place)
        for place in (-1, 1, 2):
            self.fails(TransformError, restore, "", place)

    def test_column_of_no_text(self):
        self.same(restore("ba", 1), "ab")
        self.fails(TransformError, restore, "ba", 2)
        for place in range(4):
            self.fails(TransformError, restore, "bab", place)

    def test_a_long_text(self):
        self.same(restore(*transform("abaab" * 2000)), "abaab" * 2000)


class RunsTest(ShardCase):
    def test_by_the_words_of_the_document(self):
        for column in SMALL + larger_texts():
            self.same(runs_of(column), plain.stretches(column), column)

    def test_edges(self):
        self.same(runs_of(""), ())
        self.same(runs_of("x"), (("x", 1),))
        self.same(runs_of("annbaa"), (("a", 1), ("n", 2), ("b", 1), ("a", 2)))


class BackwardTest(ShardCase):
    def expected(self, text, word):
        begun = [number for number, row in enumerate(plain.rows(text)) if row.startswith(word)]
        return (begun[0], begun[-1] + 1) if begun else (0, 0)

    def test_example_of_the_interface(self):
        self.same(backward("annbaa", 4, "an"), (2, 4))

    def test_by_the_words_of_the_document(self):
        for text in plain.texts_over("ab", 6) + plain.texts_over("!a~", 3):
            column, place = plain.transformed(text)
            for word in plain.texts_over("ab", 4, 1) + plain.texts_over("!a~", 2, 1):
                self.same(backward(column, place, word), self.expected(text, word), (text, word))

    def test_larger_texts(self):
        for text in larger_texts():
            column, place = plain.transformed(text)
            for word in ("a", "b", "ab", "aab", "ba", "z", "~", "#", text, text[2:7], text + "a", "a" + text):
                self.same(backward(column, place, word), self.expected(text, word), (text, word))

    def test_word_in_no_place(self):
        self.same(backward("annbaa", 4, "nab"), (0, 0))
        self.same(backward("annbaa", 4, "x"), (0, 0))
        self.same(backward("annbaa", 4, "bananaa"), (0, 0))
        self.same(backward("", 0, "a"), (0, 0))

    def test_empty_word(self):
        self.fails(EmptyText, backward, "annbaa", 4, "")
        self.fails(EmptyText, backward, "", 0, "")
