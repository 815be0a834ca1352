from tests import plain
from tests.helpers import ShardCase, chance, drawn
from textshards.circles import circle_has, circle_starts, least_turn, root_of, same_circle, turned
from textshards.errors import EmptyText

CIRCLES = plain.texts_over("ab", 7, 1) + plain.texts_over("!a~", 4, 1)
WORDS = plain.texts_over("ab", 5)


class TurnsTest(ShardCase):
    def test_turned_by_any_number(self):
        for circle in CIRCLES:
            for k in range(-9, 10):
                self.same(turned(circle, k), plain.round_from(circle, k, len(circle)), (circle, k))

    def test_turned_by_very_large_numbers(self):
        self.same(turned("abc", 3 * 10 ** 40 + 1), "bca")
        self.same(turned("abc", -3 * 10 ** 40 - 1), "cab")
        self.same(turned("x", 10 ** 30), "x")

    def test_least_turn(self):
        for circle in CIRCLES:
            self.same(least_turn(circle), min(plain.turns(circle)), circle)

    def test_least_turn_of_random_circles(self):
        source = chance(105)
        for _ in range(300):
            circle = drawn(source, "aab", source.randint(1, 40))
            self.same(least_turn(circle), min(plain.turns(circle)), circle)

    def test_least_turn_of_a_long_circle(self):
        self.same(least_turn("b" + "a" * 20000), "a" * 20000 + "b")

    def test_root(self):
        self.same(root_of("abab"), "ab")
        self.same(root_of("aba"), "aba")
        for circle in CIRCLES + ["abaab" * 3, "aab" * 4, "abaabaab", "x" * 9, "aabaaaba" * 2]:
            roots = [circle[:size] for size in range(1, len(circle) + 1)
                     if circle[:size] * (len(circle) // size) == circle]
            self.same(root_of(circle), roots[0], circle)

    def test_same_circle(self):
        for one in plain.texts_over("ab", 5, 1):
            for other in plain.texts_over("ab", 5, 1):
                self.assertIs(same_circle(one, other), other in plain.turns(one), (one, other))
        self.assertIs(same_circle("ab", "abab"), False)
        self.assertIs(same_circle("abab", "ab"), False)

    def test_empty_circles(self):
        self.fails(EmptyText, turned, "", 0)
        self.fails(EmptyText, turned, "", 5)
        self.fails(EmptyText, least_turn, "")
        self.fails(EmptyText, root_of, "")
        self.fails(EmptyText, same_circle, "", "a")
        self.fails(EmptyText, same_circle, "a", "")
        self.fails(EmptyText, same_circle, "", "")


class CircleWordsTest(ShardCase):
    def test_example_of_the_interface(self):
        self.same(circle_starts("aba", "aab"), (2,))

    def test_by_the_words_of_the_document(self):
        for circle in plain.texts_over("ab", 5, 1) + plain.texts_over("abc", 3, 1):
            for word in WORDS + plain.texts_over("abc", 3):
                expected = plain.circle_positions(circle, word)
                self.same(circle_starts(circle, word), expected, (circle, word))
                self.assertIs(circle_has(circle, word), expected != (), (circle, word))

    def test_words_longer_than_the_circle(self):
        self.same(circle_starts("ab", "babababab"), (1,))
        self.same(circle_starts("a", "a" * 50), (0,))
        self.same(circle_starts("ab", "abb"), ())
        self.assertIs(circle_has("abc", "cabcabcab"), True)
        self.assertIs(circle_has("abc", "cabcabcac"), False)

    def test_empty_word(self):
        self.same(circle_starts("abc", ""), (0, 1, 2))
        self.same(circle_starts("x", ""), (0,))
        self.assertIs(circle_has("abc", ""), True)

    def test_empty_circle(self):
        for word in ("", "a", "ab"):
            self.fails(EmptyText, circle_starts, "", word)
            self.fails(EmptyText, circle_has, "", word)
