from tests import plain
from tests.helpers import ShardCase, chance, drawn
from textshards.aligning import align, apply_edits, distance
from textshards.errors import EmptyText, RangeError, TooLarge

LARGE = "".join(chr(code) for code in range(38, 127))


class AlignTest(ShardCase):
    def holds(self, one, other):
        cost = plain.least_cost(one, other)
        self.same(distance(one, other), cost, (one, other))
        edits = align(one, other)
        self.assertIs(type(edits), tuple)
        self.same(plain.edited(one, edits), (other, cost), (one, other))
        self.same(apply_edits(one, edits), other)
        for kind, worth in edits:
            self.assertIn(kind, ("keep", "drop", "add"))
            self.assertTrue(len(worth) >= 1 if kind == "add" else worth >= 1, edits)
        self.assertTrue(all(before[0] != behind[0] for before, behind in zip(edits, edits[1:])), edits)

    def test_all_small_texts(self):
        texts = plain.texts_over("ab", 4) + ["c", "cab", "bca", "abcabc"]
        for one in texts:
            for other in texts:
                self.holds(one, other)

    def test_large_texts(self):
        source = chance(1402)
        for letters in ("a", "ab", "abcd", LARGE):
            one = drawn(source, letters, 200)
            for other in (one, one[::-1], one[3:] + "x", drawn(source, letters, 200), drawn(source, letters, 7), ""):
                self.holds(one, other)
                self.holds(other, one)

    def test_example_of_the_interface(self):
        self.same(distance("abcd", "acbd"), 2)

    def test_empty_texts(self):
        self.same((distance("", ""), align("", "")), (0, ()))
        self.same((distance("abc", ""), align("abc", "")), (3, (("drop", 3),)))
        self.same((distance("", "abc"), align("", "abc")), (3, (("add", "abc"),)))
        self.same(align("abc", "abc"), (("keep", 3),))

    def test_too_large(self):
        for one, other in (("a" * 201, ""), ("", "a" * 201), ("a" * 201, "a" * 300), ("a" * 200, "b" * 201)):
            self.fails(TooLarge, distance, one, other)
            self.fails(TooLarge, align, one, other)


class ApplyEditsTest(ShardCase):
    def test_edits(self):
        self.same(apply_edits("abcd", (("keep", 1), ("drop", 2), ("add", "xy"), ("keep", 1))), "axyd")
        self.same(apply_edits("abcd", (("keep", 1), ("keep", 1), ("drop", 1), ("drop", 1))), "ab")
        self.same(apply_edits("ab", (("add", "x"), ("add", "y"), ("keep", 2), ("add", "z"))), "xyabz")
        self.same(apply_edits("", ()), "")
        self.same(apply_edits("", (("add", "ab"),)), "ab")
        # Texts to which edits are applied may have any length.
        self.same(apply_edits("ab" * 500, (("keep", 999), ("drop", 1))), "ab" * 499 + "a")

    def test_random_edits(self):
        source = chance(1401)
        for _ in range(500):
            edits = []
            for _ in range(source.randint(0, 5)):
                kind = source.choice(("keep", "drop", "add"))
                edits.append((kind, drawn(source, "ab", source.randint(1, 3)) if kind == "add" else source.randint(1, 3)))
            text = drawn(source, "abc", source.randint(0, 9))
            made = plain.edited(text, edits)
            if made is None:
                self.fails(RangeError, apply_edits, text, tuple(edits))
            else:
                self.same(apply_edits(text, tuple(edits)), made[0])

    def test_edits_that_do_not_fit(self):
        for edits in ((), (("keep", 1),), (("keep", 3),), (("drop", 1),), (("drop", 3),), (("add", "ab"),),
                      (("keep", 1), ("drop", 2)), (("keep", 2), ("drop", 1)), (("keep", 10 ** 20),)):
            self.fails(RangeError, apply_edits, "ab", edits)
        self.fails(RangeError, apply_edits, "", (("keep", 1),))

    def test_numbers_below_1(self):
        for n in (0, -1, -2, -10 ** 20):
            for kind in ("keep", "drop"):
                self.fails(RangeError, apply_edits, "ab", ((kind, n), ("keep", 2)))
                self.fails(RangeError, apply_edits, "ab", (("keep", 2), (kind, n)))
                self.fails(RangeError, apply_edits, "ab", ((kind, n), ("keep", 2 - n)))
        self.fails(RangeError, apply_edits, "", (("drop", 0),))

    def test_empty_words(self):
        self.fails(EmptyText, apply_edits, "ab", (("keep", 2), ("add", "")))
        self.fails(EmptyText, apply_edits, "", (("add", ""),))
        self.fails(EmptyText, apply_edits, "ab", (("add", "x"), ("add", ""), ("drop", 2)))

    def test_several_faults(self):
        self.fails(RangeError, apply_edits, "ab", (("keep", 3), ("add", "")))
        self.fails(RangeError, apply_edits, "ab", (("add", ""), ("keep", 3)))
        self.fails(RangeError, apply_edits, "ab", (("add", ""), ("keep", 1)))
        self.fails(RangeError, apply_edits, "ab", (("keep", 0), ("add", ""), ("keep", 2)))
