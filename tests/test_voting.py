from tests import plain
from tests.helpers import ShardCase, chance, drawn
from textshards.assembly import assemble
from textshards.correcting import corrected, two_texts, voted
from textshards.errors import BudgetError, EmptyText, RangeError
from textshards.voting import check_placed, least_wrong, possible_letters

# A size, placed pieces, an alphabet and the error that is due.
WRONG = (
    (0, (), "ab", RangeError),
    (-1, ((0, ""),), "ba", RangeError),
    (401, (), "ab", RangeError),
    (10 ** 20, ((0, ""),), "ab", RangeError),
    (3, (), "", RangeError),
    (3, (), "ba", RangeError),
    (3, (), "aa", RangeError),
    (3, ((0, ""),), "ba", RangeError),
    (3, ((0, ""),), "ab", EmptyText),
    (3, ((7, ""),), "ab", EmptyText),
    (3, ((-1, ""),), "ab", EmptyText),
    (3, ((-1, "a"),), "ab", RangeError),
    (3, ((3, "a"),), "ab", RangeError),
    (3, ((2, "ab"),), "ab", RangeError),
    (3, ((0, "abab"),), "ab", RangeError),
    (3, ((0, "a"), (0, ""), (9, "a")), "ab", EmptyText),
    (3, ((0, "a"), (9, "a"), (0, "")), "ab", RangeError),
    (3, ((0, "a"), (0, "b"), (1, "aba")), "ab", RangeError),
)


def some_votes(seed, count):
    """Sizes, placed pieces with letters outside of the alphabet too, and alphabets."""
    source = chance(seed)
    found = []
    for _ in range(count):
        alphabet = source.choice(("a", "ab", "ab", "abc", "!a~"))
        size = source.randint(1, 5)
        pieces = []
        for _ in range(source.randint(0, 5)):
            start = source.randrange(size)
            pieces.append((start, drawn(source, alphabet + "bx", source.randint(1, size - start))))
        found.append((size, tuple(pieces), alphabet))
    return found


class CheckPlacedTest(ShardCase):
    def test_the_first_error_that_is_due(self):
        for size, pieces, alphabet, error in WRONG:
            self.fails(error, check_placed, size, pieces, alphabet)
            self.fails(error, least_wrong, size, pieces, alphabet)
            self.fails(error, voted, size, pieces, alphabet)
            for budget in (-1, 9):
                self.fails(error, possible_letters, size, pieces, alphabet, budget)
                self.fails(error, two_texts, size, pieces, alphabet, budget, 99)
                self.fails(error, assemble, size, pieces, alphabet, budget, 0, "other")

    def test_the_limits(self):
        for size, pieces, alphabet in ((1, (), "a"), (400, (), "ab"), (400, ((399, "a"), (0, "a" * 400)), "a"),
                                       (3, ((0, "xyz"),), "ab"), (3, ((2, "a"),), "~")):
            self.assertIs(check_placed(size, pieces, alphabet), None)


class VotingTest(ShardCase):
    def test_least_wrong_by_all_texts(self):
        for size, pieces, alphabet in some_votes(801, 300):
            expected = min(plain.wrong_letters(pieces, text) for text in plain.texts_over(alphabet, size, size))
            self.same(least_wrong(size, pieces, alphabet), expected, (size, pieces, alphabet))

    def test_voted_by_all_texts(self):
        for size, pieces, alphabet in some_votes(802, 300):
            expected = min(plain.texts_over(alphabet, size, size),
                           key=lambda text: (plain.wrong_letters(pieces, text), text))
            self.same(voted(size, pieces, alphabet), expected, (size, pieces, alphabet))

    def test_possible_letters_by_all_texts(self):
        wide = 0
        for size, pieces, alphabet in some_votes(803, 200):
            least = least_wrong(size, pieces, alphabet)
            for budget in range(least, least + 4):
                texts = plain.possible_texts(size, pieces, alphabet, budget)
                expected = tuple("".join(sorted({text[at] for text in texts})) for at in range(size))
                found = possible_letters(size, pieces, alphabet, budget)
                self.same(found, expected, (size, pieces, alphabet, budget))
                wide += len(set(found)) > 1
            if least > 0:
                self.fails(BudgetError, possible_letters, size, pieces, alphabet, least - 1)
        self.assertGreater(wide, 100)

    def test_examples_of_the_interface(self):
        pieces = ((0, "ab"), (0, "ab"), (1, "cc"))
        self.same(possible_letters(3, pieces, "abc", 1), ("a", "b", "c"))
        self.same(possible_letters(3, pieces, "abc", 2), ("a", "bc", "abc"))

    def test_positions_that_no_piece_covers(self):
        self.same(possible_letters(4, ((1, "b"),), "abc", 0), ("abc", "b", "abc", "abc"))
        self.same(voted(4, ((1, "b"),), "abc"), "abaa")
        self.same(least_wrong(400, (), "ab"), 0)

    def test_letters_that_are_not_in_the_alphabet(self):
        self.same(least_wrong(2, ((0, "xy"), (0, "xb")), "ab"), 3)
        self.same(voted(2, ((0, "xy"), (0, "xb")), "ab"), "ab")
        self.same(possible_letters(2, ((0, "xy"), (0, "xb")), "ab", 3), ("ab", "b"))
        self.same(possible_letters(2, ((0, "xy"), (0, "xb")), "ab", 4), ("ab", "ab"))
        self.fails(BudgetError, possible_letters, 2, ((0, "xy"), (0, "xb")), "ab", 2)

    def test_the_same_piece_twice_counts_twice(self):
        self.same(least_wrong(1, ((0, "a"), (0, "a"), (0, "b"), (0, "b"), (0, "b")), "ab"), 2)
        self.same(voted(1, ((0, "a"), (0, "a"), (0, "b"), (0, "b"), (0, "b")), "ab"), "b")
        self.same(voted(1, ((0, "b"), (0, "a")), "ab"), "a")

    def test_budgets(self):
        for budget in (-1, -10 ** 20):
            self.fails(BudgetError, possible_letters, 1, (), "ab", budget)
            self.fails(BudgetError, two_texts, 1, (), "ab", budget, 0)
            self.fails(BudgetError, two_texts, 1, (), "ab", budget, 5)
        self.same(possible_letters(1, (), "ab", 10 ** 20), ("ab",))
        self.same(possible_letters(2, ((0, "ab"),), "ab", 0), ("a", "b"))

    def test_large_votes(self):
        source = chance(804)
        text = drawn(source, "acgt", 400)
        pieces = tuple((at * 5, text[at * 5:at * 5 + 60]) for at in range(69))
        self.same(voted(400, pieces, "acgt"), text)
        self.same(least_wrong(400, pieces, "acgt"), 0)
        self.same(possible_letters(400, pieces, "acgt", 0), tuple(text))


class CorrectedTest(ShardCase):
    def test_pieces_of_the_text(self):
        self.same(corrected(((2, "zz"), (0, "abc"), (5, "q"), (2, "zz")), "abcdef"), ("cd", "abc", "f", "cd"))
        self.same(corrected((), "abc"), ())
        self.same(corrected((), ""), ())
        self.same(corrected(((0, "xyz"),), "abc"), ("abc",))
        self.same(corrected(((450, "x"),), "a" * 450 + "b"), ("b",))

    def test_pieces_that_do_not_lie_within_the_text(self):
        for piece in ((-1, "a"), (3, "a"), (2, "ab"), (0, "abcd"), (-1, "abcde"), (10 ** 20, "a")):
            self.fails(RangeError, corrected, (piece,), "abc")
            self.fails(RangeError, corrected, ((0, "a"), piece), "abc")
        self.fails(RangeError, corrected, ((0, "a"),), "")

    def test_empty_pieces(self):
        self.fails(EmptyText, corrected, ((0, ""),), "abc")
        self.fails(EmptyText, corrected, ((0, "ab"), (7, ""), (7, "a")), "abc")


class TwoTextsTest(ShardCase):
    def test_by_the_words_of_the_document(self):
        counts = {True: 0, False: 0}
        for size, pieces, alphabet in some_votes(805, 200):
            least = least_wrong(size, pieces, alphabet)
            for budget in range(least, least + 3):
                for position in range(size):
                    sure = len(possible_letters(size, pieces, alphabet, budget)[position]) == 1
                    found = two_texts(size, pieces, alphabet, budget, position)
                    counts[sure] += 1
                    if sure:
                        self.assertIs(found, None)
                        continue
                    self.assertIs(type(found), tuple)
                    one, other = found
                    self.assertNotEqual(one[position], other[position])
                    for text in found:
                        self.assertIn(text, plain.possible_texts(size, pieces, alphabet, budget))
        self.assertGreater(min(counts.values()), 100)

    def test_errors_in_their_order(self):
        pieces = ((0, "ab"), (0, "bb"))
        for position in (-1, 2, 10 ** 20):
            self.fails(RangeError, two_texts, 2, pieces, "ab", 1, position)
            self.fails(RangeError, two_texts, 2, pieces, "ab", 0, position)
            self.fails(BudgetError, two_texts, 2, pieces, "ab", -1, position)
        self.fails(BudgetError, two_texts, 2, pieces, "ab", 0, 1)
        self.assertIs(two_texts(2, pieces, "ab", 1, 1), None)
