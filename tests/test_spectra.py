from tests import plain
from tests.helpers import ShardCase, chance, drawn
from textshards.errors import EmptyText, GrainError, RangeError, TooLarge
from textshards.spectra import check_spectrum, has_circle, is_connected, spectrum_of

WRONG = (
    ((), GrainError),
    ((("", 1),), GrainError),
    ((("a" * 13, 1),), GrainError),
    ((("a", 1), ("ab", 1)), GrainError),
    ((("ab", 1), ("b", 1)), GrainError),
    ((("ab", 1), ("ab", 1)), GrainError),
    ((("b", 1), ("a", 1)), GrainError),
    ((("a", 1), ("c", 1), ("b", 1)), GrainError),
    ((("a", 0), ("c", 1), ("b", 99)), GrainError),
    ((("a", 0), ("bb", 99)), GrainError),
    ((("", 0),), GrainError),
    ((("a" * 13, 99),), GrainError),
    ((("a", 0),), RangeError),
    ((("a", -1),), RangeError),
    ((("a", 61), ("b", 0)), RangeError),
    ((("a", 1), ("b", -5), ("c", 90)), RangeError),
    ((("a", 61),), TooLarge),
    ((("a", 30), ("b", 31)), TooLarge),
    (tuple((chr(code) + "b", 1) for code in range(38, 99)), TooLarge),
)


class SpectraTest(ShardCase):
    def test_the_first_error_that_is_due(self):
        for spectrum, error in WRONG:
            self.fails(error, check_spectrum, spectrum)
            self.fails(error, has_circle, spectrum)

    def test_spectra_at_the_limits(self):
        for spectrum in ((("a", 60),), (("a", 1),), (("a" * 12, 60),), (("a", 30), ("b", 30)), (("ab", 1), ("zz", 2)),
                         tuple((chr(code), 1) for code in range(38, 98))):
            self.assertIs(check_spectrum(spectrum), None)

    def test_spectrum_of_by_the_words_of_the_document(self):
        source = chance(1001)
        circles = [drawn(source, letters, size) for letters in ("a", "ab", "abc", "!~") for size in range(1, 15)]
        for circle in circles + ["ab" * 30, "a" * 60]:
            for grain in range(1, 13):
                spectrum = spectrum_of(circle, grain)
                self.same(spectrum, plain.spectrum(circle, grain), (circle, grain))
                self.assertIs(check_spectrum(spectrum), None)
                self.assertIs(has_circle(spectrum), True)

    def test_example_of_the_interface(self):
        self.same(spectrum_of("abab", 2), (("ab", 2), ("ba", 2)))

    def test_circles_shorter_than_the_grain(self):
        self.same(spectrum_of("ab", 5), (("ababa", 1), ("babab", 1)))
        self.same(spectrum_of("a", 12), (("a" * 12, 1),))

    def test_wrong_circles_and_grains(self):
        for grain in (0, -1, 13, 10 ** 20):
            self.fails(EmptyText, spectrum_of, "", grain)
            self.fails(RangeError, spectrum_of, "a", grain)
            self.fails(RangeError, spectrum_of, "a" * 61, grain)
        self.fails(EmptyText, spectrum_of, "", 1)
        self.fails(TooLarge, spectrum_of, "a" * 61, 1)
        self.same(spectrum_of("a" * 60, 12), (("a" * 12, 60),))

    def test_has_circle_by_all_circles(self):
        counts = {True: 0, False: 0}
        for grain in (1, 2, 3):
            there = {plain.spectrum(circle, grain) for circle in plain.texts_over("ab", 8, 1)}
            source = chance(grain)
            windows = plain.texts_over("ab", grain, grain)
            for _ in range(400):
                chosen = sorted(source.sample(windows, source.randint(1, len(windows))))
                spectrum = tuple((window, source.choice((1, 1, 1, 2))) for window in chosen)
                if sum(count for _, count in spectrum) <= 8:
                    expected = spectrum in there
                    self.same(has_circle(spectrum), expected, spectrum)
                    counts[expected] += 1
        self.assertGreater(min(counts.values()), 100)

    def test_windows_of_one_letter(self):
        self.same(has_circle((("a", 1),)), True)
        self.same(has_circle((("a", 3), ("b", 1), ("~", 9))), True)

    def test_not_balanced(self):
        self.same(has_circle((("ab", 1),)), False)
        self.same(has_circle((("ab", 2), ("ba", 1))), False)
        self.same(has_circle((("ab", 2), ("ba", 2))), True)
        self.same(has_circle((("aa", 1), ("ab", 1), ("ba", 1))), True)

    def test_not_connected(self):
        self.same(has_circle((("aa", 1), ("bb", 1))), False)
        self.same(has_circle((("ab", 1), ("ba", 1), ("cd", 1), ("dc", 1))), False)
        self.same(has_circle((("ab", 1), ("ba", 1), ("bc", 1), ("cb", 1))), True)
        self.same(has_circle((("ab", 1), ("ba", 1), ("bc", 2), ("cb", 1))), False)

    def test_connected_in_both_directions(self):
        self.assertIs(is_connected((("ab", 1),)), False)
        self.assertIs(is_connected((("ba", 1), ("bb", 1))), False)
        self.assertIs(is_connected((("ab", 1), ("ba", 5))), True)
        self.assertIs(is_connected((("ab", 1), ("bc", 1), ("ca", 9))), True)
        self.assertIs(is_connected((("ab", 1), ("bc", 1), ("cb", 1))), False)
        self.assertIs(is_connected((("ba", 1), ("bc", 1), ("cb", 1))), False)
        self.assertIs(is_connected((("a", 1),)), True)
