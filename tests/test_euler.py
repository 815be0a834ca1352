from tests import plain
from tests.helpers import ShardCase, chance, drawn
from tests.test_spectra import WRONG
from textshards.counting import count_circles
from textshards.errors import RingError
from textshards.euler import one_circle
from textshards.spectra import has_circle, spectrum_of

LARGE = "".join(chr(code) for code in range(38, 98))


def some_spectra(seed, grain, count):
    """Spectra with and without circles, over two or three letters."""
    source = chance(seed)
    spectra = []
    for number in range(count):
        letters = ("ab", "ab", "abc")[number % 3]
        most = 8 if letters == "ab" else 6
        windows = plain.texts_over(letters, grain, grain)
        chosen = sorted(source.sample(windows, source.randint(1, min(len(windows), 5))))
        spectrum = tuple((window, source.choice((1, 1, 2, 2, 3))) for window in chosen)
        if sum(many for _, many in spectrum) <= most:
            spectra.append(spectrum)
    return spectra


def circles_of(texts):
    return {min(plain.turns(text)) for text in texts}


class BothByAllTextsTest(ShardCase):
    def both(self, spectrum):
        texts = plain.texts_with_spectrum(spectrum)
        self.same(count_circles(spectrum), len(circles_of(texts)), spectrum)
        self.same(has_circle(spectrum), texts != [], spectrum)
        if texts:
            self.same(one_circle(spectrum), min(texts), spectrum)
        else:
            self.fails(RingError, one_circle, spectrum)
        return len(circles_of(texts))

    def test_spectra_of_all_small_circles(self):
        for letters, most in (("ab", 9), ("abc", 6)):
            for grain in (1, 2, 3, 5):
                groups = {}
                for text in plain.texts_over(letters, most, 1):
                    groups.setdefault(plain.spectrum(text, grain), []).append(text)
                for spectrum, texts in groups.items():
                    self.same(one_circle(spectrum), min(texts), spectrum)
                    self.same(count_circles(spectrum), len(circles_of(texts)), spectrum)

    def test_any_spectra(self):
        found = [self.both(spectrum) for grain in (1, 2, 3) for spectrum in some_spectra(grain, grain, 250)]
        self.assertGreater(found.count(0), 100)
        self.assertGreater(len([number for number in found if number > 1]), 50)

    def test_circles_that_repeat_their_root(self):
        for root in ("a", "ab", "aab", "abac"):
            for times in range(1, 8 // len(root) + 1):
                for grain in (1, 2, 3):
                    self.both(plain.spectrum(root * times, grain))

    def test_circles_shorter_than_the_grain(self):
        for circle in ("a", "ba", "abb", "cab", "bbab"):
            for grain in range(len(circle) + 1, 13):
                spectrum = plain.spectrum(circle, grain)
                self.same(one_circle(spectrum), min(plain.turns(circle)))
                self.same(count_circles(spectrum), 1)

    def test_windows_of_one_letter(self):
        self.same(one_circle((("!", 2), ("a", 3), ("~", 1))), "!!aaa~")
        self.same(count_circles((("!", 2), ("a", 3), ("~", 1))), 10)
        self.same(count_circles((("a", 2), ("b", 2))), 2)
        self.same(count_circles((("a", 60),)), 1)

    def test_no_circle(self):
        balanced = (("aa", 1), ("bb", 1))
        connected = (("ab", 2), ("ba", 1))
        for spectrum in (balanced, connected, (("ab", 1),), (("ab", 1), ("ba", 1), ("cd", 1), ("dc", 1))):
            self.fails(RingError, one_circle, spectrum)
            self.same(count_circles(spectrum), 0)

    def test_the_first_error_that_is_due(self):
        for spectrum, error in WRONG:
            self.fails(error, one_circle, spectrum)
            self.fails(error, count_circles, spectrum)


class LargeSpectraTest(ShardCase):
    def test_one_circle_has_the_spectrum_and_is_its_least_turn(self):
        source = chance(1003)
        for letters in ("a", "ab", "abcd", LARGE):
            for grain in (1, 2, 3, 7, 12):
                text = drawn(source, letters, 60)
                spectrum = spectrum_of(text, grain)
                circle = one_circle(spectrum)
                self.same(spectrum_of(circle, grain), spectrum)
                self.same(circle, min(plain.turns(circle)))
                self.assertLessEqual(circle, min(plain.turns(text)))
                if count_circles(spectrum) == 1:
                    self.same(circle, min(plain.turns(text)))

    def test_one_circle_of_one_letter_windows_is_sorted(self):
        for text in (LARGE[::-1], "ba" * 30, "cab" * 20):
            self.same(one_circle(spectrum_of(text, 1)), "".join(sorted(text)))

    def test_necklaces_of_size_60(self):
        # Arrangements of 30 and 30 letters round a circle, by the classic sum over the divisors of 30.
        def choose(size, many):
            return choose(size, many - 1) * (size - many + 1) // many if many else 1

        def coprime(number):
            return len([k for k in range(1, number + 1) if all(number % d or k % d for d in range(2, number + 1))])

        expected = sum(coprime(d) * choose(60 // d, 30 // d) for d in range(1, 31) if 30 % d == 0) // 60
        self.same(count_circles((("a", 30), ("b", 30))), expected)

    def test_sixty_different_letters(self):
        product = 1
        for number in range(2, 60):
            product *= number
        self.same(count_circles(tuple((letter, 1) for letter in LARGE)), product)
        ring = tuple(sorted((one + other, 1) for one, other in zip(LARGE, LARGE[1:] + LARGE[0])))
        self.same(count_circles(ring), 1)
        self.same(one_circle(ring), LARGE)

    def test_all_words_of_five_bits(self):
        # Circles in which each word of k bits occurs once: two to the power of 2 ** (k - 1) - k of them.
        for size in range(1, 6):
            spectrum = tuple((word, 1) for word in plain.texts_over("ab", size, size))
            self.same(count_circles(spectrum), 2 ** (2 ** (size - 1) - size))
        self.same(one_circle(spectrum), "aaaaabaaabbaababaabbbababbabbbbb")
