from tests import plain
from tests.helpers import ShardCase, chance, cut, drawn, some_shards
from textshards.certain import WORD_LIMIT, decide, example
from textshards.errors import EmptyText, ShapeError, TooLarge
from textshards.explaining import explains
from textshards.papers import check_circle_paper, check_line_paper

SHAPES = ("circle", "line")
WORDS = ("a", "b", "ab", "ba", "aa", "aab", "abab", "bbb", "ba!", "zz", "a" * 9)


def letters_of(pieces):
    return sorted({letter for piece in pieces for letter in piece})


class DecideTest(ShardCase):
    def answer(self, pieces, grain, word, shape):
        """The answer, after its paper or its text was looked at."""
        answer, proof = decide(pieces, grain, word, shape)
        told = (pieces, grain, word, shape, proof)
        if answer == "lacking":
            self.assertTrue(plain.explains(pieces, grain, proof, shape), told)
            self.assertFalse(plain.occurs(proof, word, shape), told)
        else:
            self.assertEqual(answer, "always", told)
            check = check_circle_paper if shape == "circle" else check_line_paper
            self.assertIs(check(pieces, grain, word, proof), True, told)
        return answer

    def test_examples_of_the_interface(self):
        self.same(decide(("abc", "cab"), 2, "bca", "circle")[0], "always")
        self.same(decide(("ab", "ba", "aa"), 2, "bab", "line")[0], "lacking")

    def test_by_all_short_texts(self):
        counts = {("circle", "always"): 0, ("circle", "lacking"): 0, ("line", "always"): 0, ("line", "lacking"): 0}
        for pieces, grain in some_shards(506, 80):
            most = {1: 9, 2: 8, 3: 5}.get(len(letters_of(pieces)), 3)
            for shape in SHAPES:
                texts = plain.explaining(pieces, grain, shape, most)
                for word in WORDS + (pieces[0], pieces[0] + pieces[-1]):
                    answer = self.answer(pieces, grain, word, shape)
                    counts[shape, answer] += 1
                    lacking = [text for text in texts if not plain.occurs(text, word, shape)]
                    self.assertFalse(answer == "always" and lacking, (pieces, grain, word, shape, lacking))
        self.assertGreater(min(counts.values()), 50)

    def test_papers_by_the_words_of_the_document(self):
        for pieces, grain in some_shards(507, 40):
            for word in WORDS[:6]:
                answer, paper = decide(pieces, grain, word, "circle")
                if answer == "always":
                    self.assertTrue(plain.circle_paper(pieces, grain, word, paper), (pieces, grain, word, paper))
                answer, paper = decide(pieces, grain, word, "line")
                if answer == "always" and len(paper) < 200:
                    self.assertTrue(plain.line_paper(pieces, grain, word, paper), (pieces, grain, word, paper))

    def test_shards_that_no_text_explains(self):
        for pieces in (("ab", "cd"), ("ab", "ac"), ("abc", "xyz", "x1z")):
            for word in ("a", "ab", "zzz", "q" * 60):
                self.same(self.answer(pieces, 2, word, "circle"), "always")
                self.same(self.answer(pieces, 2, word, "line"), "always")
        self.same(self.answer(("ab",), 2, "q", "circle"), "always")
        self.same(self.answer(("ab",), 2, "q", "line"), "lacking")

    def test_circles_of_fewer_letters_than_the_grain(self):
        self.same(self.answer(("aaaa",), 3, "a" * 60, "circle"), "always")
        self.same(self.answer(("aaaa",), 3, "aaaaa", "line"), "lacking")
        self.same(self.answer(("ababababababa",), 12, "ab" * 30, "circle"), "always")
        self.same(self.answer(("ababababababa",), 12, "abb", "circle"), "lacking")
        self.same(self.answer(("abcabcabc", "cabcabca"), 7, "cabc", "circle"), "always")

    def test_words_that_are_longer_than_every_piece(self):
        pieces = ("abcd", "cdef", "efab")
        self.same(self.answer(pieces, 2, "abcdefabcdef", "circle"), "always")
        self.same(self.answer(pieces, 2, "abcdefabcded", "circle"), "lacking")
        self.same(self.answer(pieces, 2, "abcdefabcdef" * 5, "circle"), "always")
        self.same(self.answer(pieces, 2, "cdef" + "abcdef" * 9 + "ab", "circle"), "always")
        self.same(self.answer(("abcd", "cdef"), 2, "abcdef", "line"), "always")
        self.same(self.answer(("abcd", "cdef"), 2, "abcdefa", "line"), "lacking")

    def test_grain_1(self):
        self.same(self.answer(("ab", "c"), 1, "ab", "circle"), "always")
        self.same(self.answer(("ab", "c"), 1, "bc", "circle"), "lacking")
        self.same(self.answer(("ab", "c"), 1, "c", "line"), "always")
        self.same(self.answer(("a",), 1, "aa", "circle"), "always")
        self.same(self.answer(("a",), 1, "aa", "line"), "lacking")

    def test_words_within_a_gram(self):
        self.same(self.answer(("abcabca",), 5, "b", "circle"), "always")
        self.same(self.answer(("aabaa", "abaab"), 4, "ab", "circle"), "always")
        self.same(self.answer(("aabaa", "abaab"), 4, "ab", "line"), "always")
        self.same(self.answer(("aaaaab",), 4, "b", "circle"), "always")

    def test_all_letters(self):
        every = "".join(chr(code) for code in range(33, 127) if code != 37)
        pieces = (every[:50], every[40:])
        self.same(self.answer(pieces, 1, every[20:80], "circle"), "lacking")
        self.same(self.answer(pieces, 2, every[20:80], "line"), "always")
        self.assertTrue(plain.explains(pieces, 1, example(pieces, 1, "circle"), "circle"))

    def test_eight_pieces_of_a_repeating_line(self):
        source = chance(508)
        text = drawn(source, "ab", 100)
        pieces = tuple(text[at * 5:at * 5 + 60] for at in range(8))
        for word in (pieces[3], text[30:90], text[5:15], "ab" * 30, "bbbbbbbbb", "ab", text[20:81]):
            expected = "always" if any(word in piece for piece in pieces) else "lacking"
            if len(word) <= 60:
                self.same(self.answer(pieces, 2, word, "line"), expected, word)
            self.fails(TooLarge, decide, pieces + ("ab",), 2, word, "line")

    def test_forty_pieces_of_a_circle(self):
        source = chance(509)
        text = drawn(source, "abcd", 400)
        row = text + text
        pieces = tuple(row[at * 10:at * 10 + 60] for at in range(40))
        for word in (row[380:440], row[35:95], row[35:94] + "z", "ab" * 30):
            expected = "always" if word in row else "lacking"
            self.same(self.answer(pieces, 12, word, "circle"), expected, word)
        self.same(self.answer(pieces, 2, row[35:95], "circle"), "lacking")

    def test_random_shards_with_larger_grains(self):
        source = chance(510)
        for _ in range(60):
            grain = source.randint(3, 6)
            text = drawn(source, "ab", source.randint(6, 14))
            pieces = cut(source, text + text, grain, source.randint(1, 5))
            for shape in SHAPES:
                for word in (text[:7], text[3:6] + "a", "ba", text + text[:5]):
                    self.answer(pieces, grain, word, shape)


class ExampleTest(ShardCase):
    def test_by_all_short_texts(self):
        for pieces, grain in some_shards(511, 80):
            most = {1: 9, 2: 8, 3: 5}.get(len(letters_of(pieces)), 3)
            for shape in SHAPES:
                text = example(pieces, grain, shape)
                if text is None:
                    self.assertEqual(plain.explaining(pieces, grain, shape, most), [], (pieces, grain, shape))
                else:
                    self.assertTrue(plain.explains(pieces, grain, text, shape), (pieces, grain, shape, text))

    def test_no_text(self):
        self.assertIs(example(("ab",), 2, "circle"), None)
        self.assertIs(example(("ab", "cd"), 2, "line"), None)
        self.assertIs(example(("aab", "aac"), 3, "circle"), None)

    def test_one_text(self):
        self.same(example(("ab",), 2, "line"), "ab")
        self.same(example(("abcd", "cdef", "bcde"), 3, "line"), "abcdef")

    def test_a_circle_with_many_pieces(self):
        source = chance(512)
        text = drawn(source, "abc", 300)
        row = text + text
        pieces = tuple(row[at * 7:at * 7 + source.randint(30, 60)] for at in range(40))
        for grain in (1, 5, 12):
            found = example(pieces, grain, "circle")
            self.assertIs(explains(pieces, grain, found, "circle"), True)


class CertainErrorsTest(ShardCase):
    def test_word_limit(self):
        self.same(WORD_LIMIT, 60)
        for shape in SHAPES:
            self.same(decide(("ab",), 2, "a" * 60, shape)[0], "always" if shape == "circle" else "lacking")
            self.fails(TooLarge, decide, ("ab",), 2, "a" * 61, shape)
            self.fails(EmptyText, decide, ("ab",), 2, "", shape)

    def test_the_shape_before_the_word_and_the_number_of_pieces(self):
        for word in ("", "a", "a" * 61):
            for shape in ("", "Line", "circles", "ring"):
                self.fails(ShapeError, decide, ("ab",) * 9, 2, word, shape)
                self.fails(ShapeError, example, ("ab",) * 9, 2, shape)

    def test_the_word_before_the_number_of_pieces(self):
        self.fails(EmptyText, decide, ("ab",) * 9, 2, "", "line")
        self.fails(TooLarge, decide, ("ab",) * 9, 2, "a", "line")
        self.fails(TooLarge, example, ("ab",) * 9, 2, "line")
        self.same(decide(("ab",) * 8, 2, "ab", "line")[0], "always")
        self.same(example(("ab",) * 8, 2, "line"), "ab")
        self.same(decide(("aba",) * 40, 2, "ab", "circle")[0], "always")
