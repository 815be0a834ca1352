from tests import plain
from tests.helpers import ShardCase, chance, some_shards
from textshards.errors import ShapeError
from textshards.explaining import explains


class ExplainsTest(ShardCase):
    def test_by_the_words_of_the_document(self):
        for pieces, grain in some_shards(403, 90):
            letters = "".join(sorted({letter for piece in pieces for letter in piece}))
            texts = plain.texts_over(letters, 6 if len(letters) < 3 else 3 if len(letters) < 5 else 2)
            texts += [one + other for one in pieces for other in pieces] + [piece + "b" for piece in pieces]
            for text in texts + [3 * text for text in texts if len(text) == 2]:
                for shape in ("circle", "line"):
                    expected = plain.explains(pieces, grain, text, shape)
                    self.assertIs(explains(pieces, grain, text, shape), expected, (pieces, grain, text, shape))

    def test_some_of_the_answers_are_true(self):
        found = {"circle": 0, "line": 0}
        for pieces, grain in some_shards(403, 90):
            for text in plain.texts_over("ab", 6):
                for shape in found:
                    found[shape] += explains(pieces, grain, text, shape)
        self.assertGreater(found["circle"], 20)
        self.assertGreater(found["line"], 20)

    def test_circle(self):
        self.assertIs(explains(("abc", "cab"), 2, "abc", "circle"), True)
        self.assertIs(explains(("abc", "cab"), 2, "bcabca", "circle"), True)
        self.assertIs(explains(("abc", "cab"), 2, "ab", "circle"), False)
        self.assertIs(explains(("abc", "bc"), 2, "abc", "circle"), False)

    def test_line(self):
        self.assertIs(explains(("abc", "cab"), 2, "cabc", "line"), True)
        self.assertIs(explains(("abc", "cab"), 2, "abc", "line"), False)
        self.assertIs(explains(("abc", "cab"), 2, "abcaab", "line"), False)
        self.assertIs(explains(("ab",), 2, "ab", "line"), True)
        self.assertIs(explains(("ab",), 2, "ab", "circle"), False)

    def test_circle_with_fewer_letters_than_the_grain(self):
        self.assertIs(explains(("aaaa",), 3, "a", "circle"), True)
        self.assertIs(explains(("aaaa",), 3, "aa", "circle"), True)
        self.assertIs(explains(("aaaa",), 3, "a", "line"), False)
        self.assertIs(explains(("abab", "baba"), 4, "ab", "circle"), True)
        self.assertIs(explains(("ababab",), 4, "b", "circle"), False)
        self.assertIs(explains(("abababababab",), 12, "ab", "circle"), False)
        self.assertIs(explains(("ababababababa",), 12, "ab", "circle"), True)

    def test_empty_text(self):
        self.assertIs(explains(("a",), 1, "", "circle"), False)
        self.assertIs(explains(("a",), 1, "", "line"), False)

    def test_long_texts(self):
        self.assertIs(explains(("ab", "ba"), 2, "ab" * 500, "circle"), True)
        self.assertIs(explains(("ab", "ba"), 2, "ab" * 500, "line"), True)
        self.assertIs(explains(("ab", "ba"), 2, "ab" * 500 + "a", "circle"), False)
        self.assertIs(explains(("ab", "ba"), 2, "ab" * 500 + "a", "line"), True)

    def test_other_shapes(self):
        for shape in ("", "Circle", "circle ", "lines", "lin", "ring", "circleline"):
            for text in ("", "ab"):
                self.fails(ShapeError, explains, ("ab",), 2, text, shape)

    def test_random_texts_with_larger_grains(self):
        source = chance(12)
        for _ in range(60):
            root = "".join(source.choice("ab") for _ in range(source.randint(1, 9)))
            grain = source.randint(3, 6)
            row = root * 12
            pieces = tuple(row[at:at + grain + source.randint(0, 3)] for at in range(source.randint(1, 10)))
            for text in (root, root + root, root[1:] + root[0], root[:-1], root + "a", row[:grain + 9]):
                for shape in ("circle", "line"):
                    expected = plain.explains(pieces, grain, text, shape)
                    self.assertIs(explains(pieces, grain, text, shape), expected, (pieces, grain, text, shape))
