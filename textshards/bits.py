"""A row of bits: how many are 1, and where."""

from textshards.errors import RangeError


def nth(places, k):
    """The place number k; RangeError if there is none."""
    if not 0 <= k < len(places):
        raise RangeError(f"no bit number {k} of {len(places)}")
    return places[k]


class Bits:
    """A row of bits that answers without counting again."""

    def __init__(self, bits):
        self._bits = bits
        self._ones = [at for at, bit in enumerate(bits) if bit == 1]
        self._zeros = [at for at, bit in enumerate(bits) if bit == 0]
        self._before = [0]
        for bit in bits:
            self._before.append(self._before[-1] + bit)

    def __len__(self):
        return len(self._bits)

    def ones_before(self, at):
        """How many of the first at bits are 1."""
        if not 0 <= at < len(self._before):
            raise RangeError(f"no first {at} of {len(self._bits)} bits")
        return self._before[at]

    def place_of_one(self, k):
        """The position of the bit number k that is 1."""
        return nth(self._ones, k)

    def place_of_zero(self, k):
        """The position of the bit number k that is 0."""
        return nth(self._zeros, k)
