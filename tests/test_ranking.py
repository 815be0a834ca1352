from tests import plain
from tests.helpers import ShardCase, chance, drawn, some_shards
from textshards.errors import GrainError, LackingError, RangeError, TooLarge
from textshards.explaining import explains
from textshards.ranking import count_lines, line_at, number_of, shortest_line

LARGE = "".join(chr(code) for code in range(38, 127))
NINE = ("ab",) * 9


def explaining_by_size(pieces, grain):
    """For each small size all texts that explain the shards as a line, in alphabetical order."""
    letters = sorted({letter for piece in pieces for letter in piece})
    most = {1: 9, 2: 8, 3: 5}.get(len(letters), 3)
    texts = {size: [] for size in range(1, most + 1)}
    for text in plain.explaining(pieces, grain, "line", most):
        texts[len(text)].append(text)
    return texts


class ByAllTextsTest(ShardCase):
    def test_counts_numbers_and_lines(self):
        several = 0
        for pieces, grain in some_shards(1101, 90) + [(("ab", "ba", "b", "ab"), 1), (("aa", "ab", "ba"), 2)]:
            for size, texts in explaining_by_size(pieces, grain).items():
                told = (pieces, grain, size)
                self.same(count_lines(*told), len(texts), told)
                for number, text in enumerate(texts):
                    self.same(line_at(*told, number), text, told)
                    self.same(number_of(pieces, grain, text), number, told)
                for number in (-1, len(texts), len(texts) + 1, -10 ** 20, 10 ** 200):
                    self.fails(RangeError, line_at, *told, number)
                several += len(texts) > 3
        self.assertGreater(several, 60)

    def test_texts_that_do_not_explain(self):
        lacking = 0
        for pieces, grain in some_shards(1102, 40):
            for text in plain.texts_over("ab!", 5, 1):
                if not plain.explains(pieces, grain, text, "line"):
                    self.fails(LackingError, number_of, pieces, grain, text)
                    lacking += 1
        self.assertGreater(lacking, 1000)

    def test_shortest_lines(self):
        short = 0
        for pieces, grain in some_shards(1103, 150):
            texts = sum(explaining_by_size(pieces, grain).values(), [])
            found = shortest_line(pieces, grain)
            if texts:
                self.same(found, texts[0], (pieces, grain))
                short += 1
            elif found is not None:
                self.assertTrue(plain.explains(pieces, grain, found, "line"))
                self.same(count_lines(pieces, grain, len(found) - 1), 0)
                self.same(line_at(pieces, grain, len(found), 0), found)
            else:
                self.same([count_lines(pieces, grain, size) for size in (1, 20, 60)], [0, 0, 0])
        self.assertGreater(short, 50)


class EdgesTest(ShardCase):
    def test_example_of_the_interface(self):
        self.same(line_at(("ab", "ba"), 2, 4, 1), "baba")
        self.same(line_at(("ab", "ba"), 2, 4, 0), "abab")
        self.same(count_lines(("ab", "ba"), 2, 4), 2)

    def test_shards_that_no_line_explains(self):
        for pieces in (("ab", "cd"), ("xab", "yab"), ("abx", "aby")):
            self.same(shortest_line(pieces, 2), None)
            for size in (1, 5, 60):
                self.same(count_lines(pieces, 2, size), 0)
                self.fails(RangeError, line_at, pieces, 2, size, 0)

    def test_sizes_below_the_grain(self):
        pieces = ("abcabcabcabc",)
        for size in range(1, 12):
            self.same(count_lines(pieces, 12, size), 0)
            self.fails(RangeError, line_at, pieces, 12, size, 0)
        self.same((count_lines(pieces, 12, 12), line_at(pieces, 12, 12, 0)), (1, "abcabcabcabc"))
        self.same(shortest_line(pieces, 12), "abcabcabcabc")

    def test_a_size_for_which_there_is_no_line(self):
        self.same([count_lines(("abc",), 2, size) for size in (2, 3, 4)], [0, 1, 0])
        self.fails(RangeError, line_at, ("abc",), 2, 4, 0)

    def test_one_letter(self):
        self.same([count_lines(("aaa", "a"), 1, size) for size in (2, 3, 60)], [0, 1, 1])
        self.same(line_at(("aaa", "a"), 1, 60, 0), "a" * 60)
        self.same(number_of(("aaa", "a"), 1, "aaa"), 0)
        self.same(shortest_line(("aaa", "a"), 1), "aaa")

    def test_a_gram_that_no_window_follows(self):
        self.same(shortest_line(("bca",), 2), "bca")
        self.same(count_lines(("bca",), 2, 3), 1)

    def test_the_least_of_several_shortest(self):
        self.same(shortest_line(("ba", "ab"), 1), "aba")
        self.same(shortest_line(("b", "a"), 1), "ab")
        self.same(shortest_line(("xb", "xa", "bx", "ax"), 2), "axbxa")


class ErrorsInTheirOrderTest(ShardCase):
    def test_wrong_shards_come_first(self):
        for size in (5, 0, 61):
            for number in (0, -1):
                self.fails(GrainError, line_at, NINE, 3, size, number)
                self.fails(GrainError, line_at, (), 2, size, number)
                self.fails(TooLarge, line_at, ("ab",) * 41, 2, size, number)
            self.fails(GrainError, count_lines, NINE, 0, size)
            self.fails(GrainError, number_of, NINE, 13, "b" * size)
        self.fails(GrainError, shortest_line, NINE, 3)
        self.fails(TooLarge, shortest_line, ("a" * 61,), 3)

    def test_nine_pieces_come_before_the_size(self):
        for size in (5, 0, -3, 61):
            self.fails(TooLarge, count_lines, NINE, 2, size)
            self.fails(TooLarge, line_at, NINE, 2, size, -1)
            self.fails(TooLarge, number_of, NINE, 2, "x" * size)
        self.fails(TooLarge, shortest_line, NINE, 2)
        self.same(shortest_line(NINE[:8], 2), "ab")

    def test_sizes_out_of_range(self):
        for size in (0, -1, 61, 10 ** 9):
            self.fails(RangeError, count_lines, ("ab",), 2, size)
            self.fails(RangeError, line_at, ("ab",), 2, size, 0)
        for text in ("", "x" * 61, "ab" * 31):
            self.fails(RangeError, number_of, ("ab",), 2, text)
        self.fails(LackingError, number_of, ("ab",), 2, "x" * 60)
        self.fails(LackingError, number_of, ("ab",), 2, "x")


class LargeLinesTest(ShardCase):
    def round_trip(self, pieces, grain, number):
        text = line_at(pieces, grain, 60, number)
        self.same(len(text), 60)
        self.assertIs(explains(pieces, grain, text, "line"), True)
        self.same(number_of(pieces, grain, text), number)
        return text

    def test_all_texts_over_the_letters(self):
        pieces = tuple(LARGE[at:at + 1] for at in range(8))
        # Of all texts over eight letters those with all of them, by counting what is missing.
        expected = sum((-1) ** gone * many * (8 - gone) ** 60
                       for gone, many in enumerate((1, 8, 28, 56, 70, 56, 28, 8, 1)))
        self.same(count_lines(pieces, 1, 60), expected)
        self.same(self.round_trip(pieces, 1, 0), LARGE[0] * 53 + LARGE[1:8])
        self.same(self.round_trip(pieces, 1, expected - 1), LARGE[7] * 53 + LARGE[:7][::-1])
        self.fails(RangeError, line_at, pieces, 1, 60, expected)

    def test_eight_pieces_of_sixty_letters(self):
        source = chance(1104)
        for letters in ("abcd", LARGE):
            pieces = tuple(drawn(source, letters, 60) for _ in range(8))
            self.same(count_lines(pieces, 1, 60), 0)
            line = shortest_line(pieces, 1)
            self.assertIs(explains(pieces, 1, line, "line"), True)
            self.assertGreater(len(line), 400)

    def test_pieces_of_one_text(self):
        source = chance(1105)
        for letters in ("ab", "abcdef", LARGE):
            text = drawn(source, letters, 60)
            for step, size in ((1, 53), (7, 11)):
                pieces = tuple(text[step * at:step * at + size] for at in range(8))
                for grain in (1, 2, min(size - step + 1, 12)):
                    total = count_lines(pieces, grain, 60)
                    self.assertGreater(total, 0)
                    number = number_of(pieces, grain, text)
                    self.same(line_at(pieces, grain, 60, number), text)
                    self.round_trip(pieces, grain, total - 1)

    def test_numbers_ascend_with_the_texts(self):
        source = chance(1106)
        pieces = tuple(drawn(source, "abcdefgh", 4) for _ in range(8))
        total = count_lines(pieces, 1, 60)
        numbers = sorted(source.randrange(total) for _ in range(5))
        texts = [self.round_trip(pieces, 1, number) for number in numbers]
        self.assertEqual(texts, sorted(texts))
