from tests import plain
from tests.helpers import ShardCase, chance, drawn
from textshards.errors import RangeError
from textshards.wavelets import Wavelet

ALL = "".join(chr(code) for code in range(33, 127) if code != 37)
LARGE = 10 ** 20


class WaveletTest(ShardCase):
    def counts(self, text, signs):
        wavelet = Wavelet(text)
        size = len(text)
        self.same(len(wavelet), size)
        self.same([wavelet.letter(at) for at in range(size)], list(text))
        for sign in signs:
            self.same([wavelet.rank(sign, at) for at in range(size + 1)],
                      [text[:at].count(sign) for at in range(size + 1)], (text, sign))
            places = list(plain.positions(text, sign))
            self.same([wavelet.place(sign, k) for k in range(len(places))], places, (text, sign))
            for k in (-1, len(places), -LARGE, LARGE):
                self.fails(RangeError, wavelet.place, sign, k)
            for at in (-1, size + 1, -LARGE, LARGE):
                self.fails(RangeError, wavelet.rank, sign, at)
        for at in (-1, size, size + 1, -LARGE, LARGE):
            self.fails(RangeError, wavelet.letter, at)

    def stretches(self, text, signs, pairs):
        wavelet = Wavelet(text)
        for low, high in pairs:
            letters = sorted(text[low:high])
            self.same([wavelet.kth(low, high, k) for k in range(len(letters))], letters, (text, low, high))
            for sign in signs:
                less = len([letter for letter in letters if letter < sign])
                self.same(wavelet.smaller(sign, low, high), less, (text, sign, low, high))
            for k in (-1, len(letters), LARGE):
                self.fails(RangeError, wavelet.kth, low, high, k)

    def test_all_small_texts(self):
        for text in plain.texts_over("!b~", 5):
            self.counts(text, "!ab~")
            pairs = [(low, high) for low in range(len(text) + 1) for high in range(low, len(text) + 1)]
            self.stretches(text, "!ab~", pairs)

    def test_large_texts(self):
        source = chance(1202)
        for letters in ("a", "ab", "ACGT", ALL):
            text = drawn(source, letters, 400)
            self.counts(text, ALL if letters == ALL else "!@ABGTab~")
            pairs = [sorted((source.randint(0, 400), source.randint(0, 400))) for _ in range(15)]
            self.stretches(text, ALL, pairs + [(0, 400), (400, 400), (0, 0)])

    def test_example_of_the_interface(self):
        self.same(Wavelet("banana").kth(1, 5, 2), "n")

    def test_the_empty_text(self):
        self.counts("", "!a~")
        self.stretches("", "!a~", [(0, 0)])

    def test_wrong_stretches(self):
        for text in ("", "banana"):
            wavelet = Wavelet(text)
            size = len(text)
            for low, high in ((-1, 0), (0, size + 1), (1, 0), (size, size - 1), (size + 1, size + 1), (-2, -1),
                              (-LARGE, LARGE), (size + 2, 0)):
                self.fails(RangeError, wavelet.smaller, "a", low, high)
                self.fails(RangeError, wavelet.smaller, "z", low, high)
                self.fails(RangeError, wavelet.kth, low, high, 0)
                self.fails(RangeError, wavelet.kth, low, high, -1)

    def test_two_texts_share_nothing(self):
        one, other = Wavelet("ab"), Wavelet("ba")
        self.same((one.letter(0), other.letter(0), one.rank("a", 1), other.rank("a", 1)), ("a", "b", 1, 0))
