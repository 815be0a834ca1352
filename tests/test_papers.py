from tests import plain
from tests.helpers import ShardCase, chance, some_shards
from textshards.certain import decide
from textshards.errors import EmptyText, TooLarge
from textshards.papers import check_circle_paper, check_line_paper

WORDS = ("a", "b", "ab", "aab", "abab", "ba!", "zz")


def without(row, at):
    return row[:at] + row[at + 1:]


def changed(row, at, part):
    return row[:at] + (part,) + row[at + 1:]


def exchanged(row, at):
    return row[:at] + (row[at + 1], row[at]) + row[at + 2:]


def spoilt_levels(source, levels, number):
    """The levels, spoilt at one place in each of several ways."""
    at = source.randrange(len(levels))
    gram, matched, level = levels[at]
    found = [without(levels, at), changed(levels, at, (gram + "a", matched, level)), levels[:at + 1] + levels[at:]]
    found += [changed(levels, at, (gram, matched + step, level)) for step in (-1, 1)]
    found += [changed(levels, at, (gram, matched, other)) for other in (level - 1, level + 1, 0, -1, number)]
    if at + 1 < len(levels):
        found.append(exchanged(levels, at))
    return found


def spoilt_gaps(source, gaps, pieces):
    at = source.randrange(len(gaps))
    level, piece = gaps[at]
    found = [without(gaps, at), gaps[:at + 1] + gaps[at:], gaps + ((level + 100, piece),), ((-1, 0),) + gaps]
    found += [changed(gaps, at, (level, other)) for other in range(-2, len(pieces) + 2)]
    found += [changed(gaps, at, (level + step, piece)) for step in (-1, 1)]
    if at + 1 < len(gaps):
        found.append(exchanged(gaps, at))
    return found


class CirclePaperTest(ShardCase):
    def compare(self, pieces, grain, word, paper):
        expected = plain.circle_paper(pieces, grain, word, paper)
        self.same(check_circle_paper(pieces, grain, word, paper), expected, (pieces, grain, word, paper))
        return expected

    def papers(self, seed, count):
        for pieces, grain in some_shards(seed, count):
            for word in WORDS:
                answer, paper = decide(pieces, grain, word, "circle")
                if answer == "always":
                    yield pieces, grain, word, paper

    def test_papers_of_decide_and_spoilt_ones(self):
        source = chance(503)
        counts = {True: 0, False: 0}
        for pieces, grain, word, (levels, gaps) in self.papers(501, 60):
            self.assertTrue(self.compare(pieces, grain, word, (levels, gaps)))
            for other in spoilt_levels(source, levels, len(gaps)):
                counts[self.compare(pieces, grain, word, (other, gaps))] += 1
            for other in spoilt_gaps(source, gaps, pieces):
                counts[self.compare(pieces, grain, word, (levels, other))] += 1
        self.assertGreater(min(counts.values()), 50)

    def test_papers_with_other_levels(self):
        source = chance(504)
        counts = {True: 0, False: 0}
        for pieces, grain, word, (levels, gaps) in self.papers(502, 90):
            for step, more in ((1, 1), (3, 0), (2, 10 ** 12)):
                other = (tuple((gram, matched, level * step + more) for gram, matched, level in levels),
                         tuple((level * step + more, piece) for level, piece in gaps))
                self.assertTrue(self.compare(pieces, grain, word, other))
            for most in (1, 2, 3):
                drawn = tuple((gram, matched, source.randrange(most)) for gram, matched, _ in levels)
                numbers = sorted({level for _, _, level in drawn})
                other = tuple((level, source.randrange(len(pieces))) for level in numbers)
                counts[self.compare(pieces, grain, word, (drawn, other))] += 1
        self.assertGreater(min(counts.values()), 20)

    def test_levels_that_fall(self):
        levels = (("a", 0, 1), ("b", 0, 0))
        self.same(check_circle_paper(("ab",), 2, "c", (levels, ((0, 0), (1, 0)))), False)
        levels = (("a", 0, 0), ("b", 0, 1))
        self.same(check_circle_paper(("ab",), 2, "c", (levels, ((0, 0), (1, 0)))), True)
        levels = (("a", 0, 7), ("b", 0, 7))
        self.same(check_circle_paper(("ab",), 2, "c", (levels, ((7, 0),))), True)
        self.same(check_circle_paper(("aba",), 2, "c", (levels, ((7, 0),))), False)

    def test_a_piece_that_is_read_through_another_level(self):
        # From a to c the state in the middle has to be on the level, too.
        pieces = ("abc", "ca")
        levels = (("a", 0, 0), ("b", 0, 0), ("c", 0, 0))
        self.same(check_circle_paper(pieces, 2, "x", (levels, ((0, 0),))), False)
        self.same(check_circle_paper(pieces, 2, "x", (levels, ((0, 1),))), False)
        levels = (("a", 0, 0), ("b", 0, 1), ("c", 0, 2))
        self.same(check_circle_paper(pieces[:1], 2, "x", (levels, ((0, 0), (1, 0), (2, 0)))), True)

    def test_levels_below_0(self):
        for low in (-1, -7):
            levels = (("a", 0, low), ("b", 0, 1))
            self.same(check_circle_paper(("ab",), 2, "c", (levels, ((low, 0), (1, 0)))), False)

    def test_a_paper_of_nothing(self):
        self.same(check_circle_paper(("ab",), 2, "c", ((), ())), False)

    def test_a_piece_of_which_only_a_part_can_be_read(self):
        # abba needs the way from b to b, which the word forbids behind one b only.
        for word in ("bb", "abb", "bba"):
            answer, paper = decide(("ab", "abba"), 2, word, "circle")
            self.assertEqual(answer, "always")
            self.assertTrue(self.compare(("ab", "abba"), 2, word, paper))

    def test_wrong_words(self):
        self.fails(EmptyText, check_circle_paper, ("ab",), 2, "", ((), ()))
        self.fails(TooLarge, check_circle_paper, ("ab",), 2, "a" * 61, ((), ()))
        self.same(check_circle_paper(("ab",) * 40, 2, "a" * 60, ((), ())), False)


class LinePaperTest(ShardCase):
    def compare(self, pieces, grain, word, paper):
        expected = plain.line_paper(pieces, grain, word, paper)
        self.same(check_line_paper(pieces, grain, word, paper), expected, (pieces, grain, word, paper))
        return expected

    def papers(self, seed, count):
        for pieces, grain in some_shards(seed, count):
            for word in WORDS:
                answer, paper = decide(pieces, grain, word, "line")
                if answer == "always":
                    yield pieces, grain, word, paper

    def test_papers_of_decide_and_spoilt_ones(self):
        source = chance(505)
        counts = {True: 0, False: 0}
        for pieces, grain, word, paper in self.papers(503, 60):
            self.assertTrue(self.compare(pieces, grain, word, paper))
            if len(paper) > 60:
                continue
            for at in source.sample(range(len(paper)), min(len(paper), 5)):
                others = [without(paper, at), paper[:at + 1] + paper[at:]]
                others += [exchanged(paper, at)] if at + 1 < len(paper) else []
                for other in others:
                    counts[self.compare(pieces, grain, word, other)] += 1
        self.assertGreater(counts[False], 50)

    def test_papers_with_more_states_than_are_reached(self):
        source = chance(506)
        counts = {True: 0, False: 0}
        for pieces, grain, word, paper in self.papers(504, 60):
            tails = sorted(plain.beginnings_of(pieces))
            states = [(gram, tail, matched, found) for gram in plain.grams(pieces, grain) for tail in tails
                      for matched in range(len(word)) for found in ((), (len(pieces) - 1,), tuple(range(len(pieces))))]
            for _ in range(4):
                state = source.choice(states)
                counts[self.compare(pieces, grain, word, tuple(sorted({*paper, state})))] += 1
            if len(states) < 60:
                reached = {state for state in states if len(state[3]) < len(pieces)}
                counts[self.compare(pieces, grain, word, tuple(sorted({*paper, *reached})))] += 1
        self.assertGreater(min(counts.values()), 20)

    def test_states_that_no_text_leads_to(self):
        paper = (("a", "a", 1, ()), ("b", "", 0, ()))
        self.same(check_line_paper(("ab",), 2, "ab", paper), True)
        self.same(check_line_paper(("ab",), 2, "ab", paper + (("b", "", 1, ()),)), True)
        self.same(check_line_paper(("ab",), 2, "ab", paper + (("b", "a", 0, ()), ("b", "ab", 1, ()))), True)
        self.same(check_line_paper(("ab",), 2, "ab", paper + (("b", "ab", 0, (0,)),)), False)
        # The word is not matched any more, so the piece is found.
        self.same(check_line_paper(("ab",), 2, "ab", (("a", "a", 0, ()),) + paper), False)
        self.same(check_line_paper(("ab",), 2, "ab", paper[1:]), False)
        self.same(check_line_paper(("ab",), 2, "ab", paper[:1]), False)

    def test_a_paper_of_nothing(self):
        self.same(check_line_paper(("ab",), 2, "c", ()), False)
        self.same(check_line_paper(("aa",), 2, "a", ()), True)

    def test_wrong_words_and_many_pieces(self):
        self.fails(EmptyText, check_line_paper, ("ab",), 2, "", ())
        self.fails(TooLarge, check_line_paper, ("ab",), 2, "a" * 61, ())
        self.fails(TooLarge, check_line_paper, ("ab",) * 9, 2, "a", ())
        self.fails(EmptyText, check_line_paper, ("ab",) * 9, 2, "", ())
        self.same(check_line_paper(("aa",) * 8, 2, "a", ()), True)
