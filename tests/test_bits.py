from itertools import product

from tests.helpers import ShardCase, chance
from textshards.bits import Bits
from textshards.errors import RangeError

LARGE = 10 ** 20


class BitsTest(ShardCase):
    def holds(self, row):
        bits = Bits(row)
        self.same(len(bits), len(row))
        self.same([bits.ones_before(at) for at in range(len(row) + 1)],
                  [sum(row[:at]) for at in range(len(row) + 1)], row)
        ones = [at for at, bit in enumerate(row) if bit == 1]
        zeros = [at for at, bit in enumerate(row) if bit == 0]
        self.same([bits.place_of_one(k) for k in range(len(ones))], ones, row)
        self.same([bits.place_of_zero(k) for k in range(len(zeros))], zeros, row)
        for k in (-1, -2, -LARGE, LARGE):
            self.fails(RangeError, bits.ones_before, k)
            self.fails(RangeError, bits.place_of_one, k)
            self.fails(RangeError, bits.place_of_zero, k)
        self.fails(RangeError, bits.ones_before, len(row) + 1)
        self.fails(RangeError, bits.place_of_one, len(ones))
        self.fails(RangeError, bits.place_of_zero, len(zeros))

    def test_all_small_rows(self):
        for size in range(9):
            for row in product((0, 1), repeat=size):
                self.holds(row)

    def test_large_rows(self):
        source = chance(1201)
        for weight in (1, 10, 19):
            self.holds(tuple(int(source.randrange(20) < weight) for _ in range(700)))

    def test_rows_all_alike_and_no_bits(self):
        self.holds(())
        self.holds((0,) * 100)
        self.holds((1,) * 100)

    def test_two_rows_share_nothing(self):
        one, other = Bits((1, 0)), Bits((0, 0, 1))
        self.same((one.place_of_one(0), other.place_of_one(0)), (0, 2))
        self.same((len(one), len(other)), (2, 3))
