from tests import plain
from tests.helpers import ShardCase, chance, drawn
from textshards.errors import EmptyText, RangeError
from textshards.markers import marked, markers, longest_shared, shared_words

LARGE = 10 ** 20


class MarkersTest(ShardCase):
    def holds(self, text):
        found = plain.markers(text)
        self.same(markers(text), found, text)
        for position in range(len(text)):
            covering = [(len(word), start, word) for start, word in found if start <= position < start + len(word)]
            self.same(marked(text, position), min(covering)[2] if covering else None, (text, position))
        for position in (-1, len(text), LARGE, -LARGE):
            self.fails(RangeError, marked, text, position)

    def test_all_small_texts(self):
        for text in plain.texts_over("ab", 8) + plain.texts_over("!b~", 5):
            self.holds(text)

    def test_longer_texts(self):
        source = chance(1801)
        for letters in ("ab", "abcd", "!AZaz~"):
            for size in (30, 45):
                self.holds(drawn(source, letters, size))
                self.holds((drawn(source, letters, 6) * 8)[:size])

    def test_texts_of_some_thousand_letters(self):
        source = chance(1802)
        for text in (drawn(source, "ab", 3000), "a" * 2000 + "b" + "a" * 1999, "ab" * 1500):
            found = markers(text)
            self.assertNotEqual(found, ())
            for start, word in found:
                self.same((text.find(word), text.rfind(word)), (start, start))
                for shorter in (word[1:], word[:-1]):
                    self.assertNotEqual(text.find(shorter), text.rfind(shorter), (start, word))
        self.same(markers("a" * 2000 + "b" + "a" * 1999), ((0, "a" * 2000), (2000, "b")))

    def test_examples(self):
        self.same(markers("abab"), ((1, "ba"),))
        self.same(markers("abc"), ((0, "a"), (1, "b"), (2, "c")))
        self.same(markers("aaa"), ((0, "aaa"),))

    def test_the_empty_text(self):
        self.same(markers(""), ())
        for position in (0, -1, 1):
            self.fails(RangeError, marked, "", position)

    def test_a_position_that_no_marker_covers(self):
        self.same([marked("abab", position) for position in range(4)], [None, "ba", "ba", None])

    def test_the_first_of_several(self):
        self.same(marked("aabb", 1), "aa")
        self.same(marked("aabb", 2), "ab")
        self.same([marked("abac", position) for position in range(4)], [None, "b", None, "c"])


class SharedWordsTest(ShardCase):
    def holds(self, circles, most):
        longest = ""
        for count in range(1, most + 1):
            expected = plain.shared_words(circles, count)
            self.same(shared_words(circles, count), expected, (circles, count))
            longest = expected[0] if expected else longest
            self.same(longest_shared(circles, count), longest, (circles, count))

    def test_all_small_circles(self):
        circles = plain.texts_over("ab", 4, 1) + ["c", "abc"]
        for one in circles:
            self.holds((one,), 6)
            for other in circles:
                self.holds((one, other), 9)

    def test_several_circles(self):
        source = chance(1803)
        for letters in ("a", "ab", "ab", "abc"):
            for _ in range(20):
                base = drawn(source, letters, source.randint(1, 9))
                circles = tuple(base[k:] + base[:k] + drawn(source, letters, source.choice((0, 0, 1, 3)))
                                for k in range(source.randint(1, 4)))
                self.holds(circles, 12)

    def test_counts_above_the_length(self):
        self.same(shared_words(("ab", "ba", "abab"), 5), ("ababa", "babab"))
        self.same(longest_shared(("ab", "ba", "abab"), 7), "abababa")
        self.same(shared_words(("ab", "abb"), 5), ())
        self.same(longest_shared(("ab", "abb"), 50), "bab")

    def test_one_circle_and_circles_of_one_letter(self):
        self.same(shared_words(("bab",), 2), ("ab", "ba", "bb"))
        self.same(longest_shared(("bab",), 4), "abba")
        self.same(shared_words(("a", "aa"), 3), ("aaa",))
        self.same(longest_shared(("a", "aa", "a"), 60), "a" * 60)
        self.same(longest_shared(("a", "b"), 60), "")
        self.same(shared_words(("a", "b"), 1), ())

    def test_large_circles(self):
        source = chance(1804)
        core = drawn(source, "abcd", 300)
        circles = tuple(drawn(source, "abcd", 100) + core for _ in range(4))
        for most in (299, 300):
            self.assertEqual(len(longest_shared(circles, most)), most)
        self.assertIn(core, longest_shared(circles, 2000))
        self.assertLess(len(longest_shared(circles, 2000)), 320)
        # No word is much longer than both circles unless they repeat the same root.
        self.assertEqual(len(longest_shared(("ab" * 50, "ab" * 51 + "b"), LARGE)), 103)

    def test_errors_in_their_order(self):
        for action in (shared_words, longest_shared):
            for count in (1, 0, -1, -LARGE):
                self.fails(EmptyText, action, (), count)
                self.fails(EmptyText, action, ("",), count)
                self.fails(EmptyText, action, ("a", ""), count)
                self.fails(EmptyText, action, ("a", "", "b"), count)
            for count in (0, -1, -LARGE):
                self.fails(RangeError, action, ("a", "b"), count)
