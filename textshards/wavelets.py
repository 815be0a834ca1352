"""A text as rows of bits, one for each bit of the codes of its letters."""

from textshards.bits import Bits
from textshards.errors import RangeError

# Codes of letters are below 128.
CODE_BITS = 7


class Level:
    """One bit of the codes of letters in some order; the next level has those with 0 first, then those with 1."""

    def __init__(self, codes, shift):
        self.weight = 1 << shift
        self.row = Bits(tuple([(code >> shift) & 1 for code in codes]))
        self.zeros = len(codes) - self.row.ones_before(len(codes))

    def down(self, bit, at):
        """How the position goes on in the next level, behind all letters before it with this bit."""
        ones = self.row.ones_before(at)
        return self.zeros + ones if bit == 1 else at - ones

    def up(self, at):
        """The position from which one comes to this one in the next level."""
        return self.row.place_of_zero(at) if at < self.zeros else self.row.place_of_one(at - self.zeros)


class Wavelet:
    """A text that is asked for the ranks and places of its letters."""

    def __init__(self, text):
        self._text = text
        self._signs = {ord(letter): letter for letter in text}
        self._levels = []
        codes = [ord(letter) for letter in text]
        for shift in range(CODE_BITS - 1, -1, -1):
            self._levels.append(Level(codes, shift))
            ones = [code for code in codes if (code >> shift) & 1 == 1]
            codes = [code for code in codes if (code >> shift) & 1 == 0] + ones

    def __len__(self):
        return len(self._text)

    def letter(self, at):
        """The letter at the position."""
        return self.kth(at, at + 1, 0)

    def rank(self, sign, at):
        """How often the letter stands in the first at letters."""
        self._check_stretch(0, at)
        low, high = self._stretch(sign, 0, at)
        return high - low

    def place(self, sign, k):
        """The position of the occurrence number k of the letter."""
        low, high = self._stretch(sign, 0, len(self._text))
        if not 0 <= k < high - low:
            raise RangeError(f"no {sign} number {k}")
        at = low + k
        for level in reversed(self._levels):
            at = level.up(at)
        return at

    def smaller(self, sign, low, high):
        """How many of the letters from low to high - 1 are less than the letter."""
        self._check_stretch(low, high)
        code = ord(sign)
        less = 0
        for level in self._levels:
            bit = 1 if code & level.weight else 0
            if bit == 1:
                # Those with 0 here, and all bits before as in the code, are less.
                less += level.down(0, high) - level.down(0, low)
            low, high = level.down(bit, low), level.down(bit, high)
        return less

    def kth(self, low, high, k):
        """The letter number k of those from low to high - 1 when they are put in order."""
        self._check_stretch(low, high)
        if not 0 <= k < high - low:
            raise RangeError(f"no letter number {k} from {low} to {high}")
        code = 0
        for level in self._levels:
            zeros = level.down(0, high) - level.down(0, low)
            bit = 0 if k < zeros else 1
            if bit == 1:
                k -= zeros
                code += level.weight
            low, high = level.down(bit, low), level.down(bit, high)
        return self._signs[code]

    def _check_stretch(self, low, high):
        """Raise RangeError if there are no letters from low to high - 1, an empty stretch within the text excepted."""
        if not 0 <= low <= high <= len(self._text):
            raise RangeError(f"no letters from {low} to {high} of {len(self._text)}")

    def _stretch(self, sign, low, high):
        """Where the occurrences of the letter from low to high - 1 stand behind the last level."""
        code = ord(sign)
        for level in self._levels:
            bit = 1 if code & level.weight else 0
            low, high = level.down(bit, low), level.down(bit, high)
        return low, high
