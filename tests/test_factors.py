from tests import plain
from tests.helpers import ShardCase, chance, drawn
from textshards.errors import RangeError, TooLarge
from textshards.factors import fold, unfold

LARGE = 10 ** 20


def letters(word):
    return tuple(("letter", letter) for letter in word)


class FoldTest(ShardCase):
    def holds(self, text):
        factors = fold(text)
        self.same(factors, plain.folded(text), text)
        self.same(len(factors), plain.fewest_factors(text), text)
        self.same(unfold(factors), text)

    def test_all_small_texts(self):
        for text in plain.texts_over("ab", 9) + plain.texts_over("abc", 5):
            self.holds(text)

    def test_longer_texts(self):
        source = chance(1702)
        for alphabet in ("a", "ab", "abc", "!AZaz~"):
            for size in (20, 40, 60):
                self.holds(drawn(source, alphabet, size))
                self.holds((drawn(source, alphabet, 7) * 10)[:size])

    def test_examples(self):
        self.same(fold("abababb"), (*letters("ab"), ("copy", 2, 4), ("copy", 1, 1)))
        self.same(fold(""), ())
        self.same(fold("a"), letters("a"))
        self.same(fold("abcd~"), letters("abcd~"))

    def test_a_count_greater_than_the_back(self):
        self.same(fold("a" * 2000), (("letter", "a"), ("copy", 1, 1999)))
        self.same(fold("abc" * 600), (*letters("abc"), ("copy", 3, 1797)))

    def test_the_least_back(self):
        self.same(fold("abxaby" + "ab"), (*letters("abx"), ("copy", 3, 2), ("letter", "y"), ("copy", 3, 2)))
        self.same(fold("aabaa"), (("letter", "a"), ("copy", 1, 1), ("letter", "b"), ("copy", 3, 2)))

    def test_texts_of_2000_letters(self):
        source = chance(1703)
        half = drawn(source, "abcd", 1000)
        for text in (half + half, half + half[::-1], drawn(source, "ab", 2000), "a" * 1000 + "b" + "a" * 999,
                     ("ab" * 30 + "c" * 40) * 20):
            factors = fold(text)
            self.same(plain.unfolded(factors), text)
            self.same(unfold(factors), text)
        self.same(fold(half[1:] + "!" + half[1:])[-1], ("copy", 1000, 999))

    def test_too_large(self):
        self.fails(TooLarge, fold, "a" * 2001)
        self.fails(TooLarge, fold, "ab" * 5000)


class UnfoldTest(ShardCase):
    def test_any_factors(self):
        source = chance(1701)
        for _ in range(300):
            factors, size = [], 0
            for _ in range(source.randint(0, 12)):
                if size == 0 or source.random() < 0.4:
                    factors.append(("letter", source.choice("abc")))
                    size += 1
                else:
                    factors.append(("copy", source.randint(1, size), source.randint(1, 9)))
                    size += factors[-1][2]
            self.same(unfold(tuple(factors)), plain.unfolded(factors))

    def test_no_factors(self):
        self.same(unfold(()), "")

    def test_wrong_copies(self):
        for back, count in ((0, 1), (-1, 1), (3, 1), (LARGE, 1), (-LARGE, 1), (1, 0), (1, -1), (2, -LARGE), (0, 0), (3, 0)):
            self.fails(RangeError, unfold, (*letters("ab"), ("copy", back, count)))
            self.fails(RangeError, unfold, (*letters("ab"), ("copy", back, count), ("letter", "c")))
        self.fails(RangeError, unfold, (("copy", 1, 1),))
        self.fails(RangeError, unfold, (("copy", 0, 0),))
        self.same(unfold((*letters("ab"), ("copy", 2, 1))), "aba")

    def test_more_than_2000_letters(self):
        self.same(unfold((*letters("ab"), ("copy", 2, 1998))), "ab" * 1000)
        self.same(unfold((("letter", "a"), ("copy", 1, 1998), ("letter", "b"))), "a" * 1999 + "b")
        self.same(unfold(letters("a") * 2000), "a" * 2000)
        self.fails(RangeError, unfold, letters("a") * 2001)
        self.fails(RangeError, unfold, (*letters("ab"), ("copy", 2, 1999)))
        self.fails(RangeError, unfold, (*letters("ab"), ("copy", 2, LARGE)))
        self.fails(RangeError, unfold, (*letters("ab"), ("copy", 2, 1998), ("letter", "a")))
        self.fails(RangeError, unfold, (*letters("ab"), ("copy", 2, 1998), ("copy", 1, 1)))
