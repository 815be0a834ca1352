import re

from tests import plain
from tests.helpers import ShardCase, chance, drawn
from textshards.assembly import Report, assemble
from textshards.certain import decide, example
from textshards.correcting import corrected, voted
from textshards.errors import BudgetError, EmptyText, GrainError, RangeError, ReportError, ShapeError, TooLarge
from textshards.reports import read_report, write_report
from textshards.voting import least_wrong, possible_letters

ATTRIBUTES = ("consensus", "sure", "pieces", "grain", "shape", "example", "findings")
FORM = re.compile("text ([!-$&-~]+)\nsure ([+-]+)\ngrain ([1-9][0-9]{0,8})\nshape (circle|line)\n"
                  "((?:piece [!-$&-~]+\n)*)(?:none|example ([!-$&-~]+))\n((?:(?:always|lacking) [!-$&-~]+\n)*)")


def told(report):
    return tuple(getattr(report, name) for name in ATTRIBUTES)


def findings_of(pieces, grain, shape):
    return tuple((strand, decide(pieces, grain, strand, shape)[0]) for strand in plain.strands(pieces, grain)
                 if len(strand) <= 60)


def told_by(text):
    """The attributes that the text of a report tells, or None if it is none."""
    match = FORM.fullmatch(text)
    if not match:
        return None
    consensus, sure, grain, shape, pieces, found, findings = match.groups()
    grain, found = int(grain), found or ""
    pieces = tuple(line.split(" ")[1] for line in pieces.splitlines())
    findings = tuple(tuple(line.split(" ")[::-1]) for line in findings.splitlines())
    if len(sure) != len(consensus) or grain > 12 or not 1 <= len(pieces) <= (8 if shape == "line" else 40):
        return None
    if not all(grain <= len(piece) <= 60 for piece in pieces) or findings != findings_of(pieces, grain, shape):
        return None
    if not (plain.explains(pieces, grain, found, shape) if found else example(pieces, grain, shape) is None):
        return None
    return consensus, sure, pieces, grain, shape, found, findings


def some_votes(seed, count):
    """Arguments of assemble, in which a piece has a wrong letter now and then."""
    source = chance(seed)
    found = []
    for number in range(count):
        grain = number % 3 + 1
        letters = source.choice(("ab", "ab", "abc", "!~"))
        text = drawn(source, letters, source.randint(grain + 1, 9))
        text = text + text[:grain] if source.random() < 0.6 else text
        placed = []
        for _ in range(source.randint(1, 5)):
            start = source.randint(0, len(text) - grain)
            piece = text[start:start + source.randint(grain, grain + 4)]
            if source.random() < 0.2:
                piece = "x" + piece[1:]
            placed.append((start, piece))
        shape = source.choice(("circle", "line"))
        budget = least_wrong(len(text), tuple(placed), letters) + source.randint(0, 1)
        found.append((len(text), tuple(placed), letters, budget, grain, shape))
    return found


class AssembleTest(ShardCase):
    def test_by_the_words_of_the_document(self):
        seen = {"circle": 0, "line": 0, "always": 0, "lacking": 0, "": 0}
        for size, placed, alphabet, budget, grain, shape in some_votes(901, 200):
            report = assemble(size, placed, alphabet, budget, grain, shape)
            consensus = voted(size, placed, alphabet)
            pieces = corrected(placed, consensus)
            possible = possible_letters(size, placed, alphabet, budget)
            self.same(told(report)[:5], (consensus, "".join("+-"[len(letters) > 1] for letters in possible),
                                         pieces, grain, shape))
            self.same(report.findings, findings_of(pieces, grain, shape), (pieces, grain, shape))
            self.assertIs(type(report.example), str)
            if report.example == "":
                self.assertIs(example(pieces, grain, shape), None)
            else:
                self.assertTrue(plain.explains(pieces, grain, report.example, shape))
            seen[shape] += 1
            seen[""] += report.example == ""
            for _, answer in report.findings:
                seen[answer] += 1
        self.assertGreater(min(seen.values()), 5, seen)

    def test_paper(self):
        report = assemble(6, ((0, "abca"), (2, "cab"), (3, "axc")), "abc", 1, 2, "circle")
        for word in ("abca", "cc", "bcabca"):
            self.same(report.paper(word), decide(("abca", "cab", "abc"), 2, word, "circle"))
        self.fails(EmptyText, report.paper, "")
        self.fails(TooLarge, report.paper, "a" * 61)

    def test_sure(self):
        placed = ((0, "ab"), (0, "ab"), (1, "cc"))
        self.same(assemble(3, placed, "abc", 1, 1, "line").sure, "+++")
        self.same(assemble(3, placed, "abc", 2, 1, "line").sure, "+--")
        self.same(assemble(3, placed, "abc", 2, 1, "line").consensus, "abc")

    def test_no_example(self):
        report = assemble(4, ((0, "ab"), (2, "cd")), "abcd", 0, 2, "line")
        self.same(told(report), ("abcd", "++++", ("ab", "cd"), 2, "line", "", (("ab", "always"), ("cd", "always"))))
        self.same(write_report(report), "text abcd\nsure ++++\ngrain 2\nshape line\npiece ab\npiece cd\nnone\n"
                                        "always ab\nalways cd\n")

    def test_long_strands(self):
        text = "".join(chr(code) for code in range(38, 38 + 62))
        report = assemble(62, ((0, text[:50]), (1, text[1:61])), text, 0, 3, "line")
        self.same(report.findings, ())
        self.same(read_report(write_report(report)).findings, ())
        report = assemble(62, ((0, text[:50]), (1, text[1:60])), text, 0, 3, "line")
        self.same(report.findings, ((text[:60], "always"),))

    def test_errors_in_their_order(self):
        nine = ((0, "ab"),) * 9
        for shape in ("other", "line", "circle"):
            self.fails(BudgetError, assemble, 2, nine, "ab", -1, 0, shape)
            self.fails(BudgetError, assemble, 2, nine, "a", 8, 0, shape)
            self.fails(GrainError, assemble, 2, nine, "a", 9, 0, shape)
            self.fails(GrainError, assemble, 2, nine, "ab", 0, 13, shape)
            self.fails(GrainError, assemble, 2, nine, "ab", 0, 3, shape)
            self.fails(GrainError, assemble, 2, (), "ab", 0, 1, shape)
            self.fails(TooLarge, assemble, 2, ((0, "ab"),) * 41, "ab", 0, 1, shape)
            self.fails(TooLarge, assemble, 61, ((0, "a" * 61),), "ab", 0, 1, shape)
        self.fails(ShapeError, assemble, 2, nine, "ab", 0, 2, "other")
        self.fails(TooLarge, assemble, 2, nine, "ab", 0, 2, "line")
        self.same(assemble(2, nine[:8], "ab", 0, 2, "line").example, "ab")
        self.same(assemble(2, nine, "ab", 0, 1, "circle").shape, "circle")


class WriteTest(ShardCase):
    def test_lines(self):
        report = assemble(6, ((0, "abca"), (2, "cab"), (3, "axc")), "abc", 3, 2, "circle")
        text = write_report(report)
        self.assertEqual(text.split("\n")[:7], ["text abcabc", "sure ---+--", "grain 2", "shape circle", "piece abca",
                                                "piece cab", "piece abc"])
        self.assertEqual(text, f"{text[:text.index('example')]}example {report.example}\nalways abca\n")

    def test_grain_of_two_digits(self):
        report = assemble(20, ((0, "a" * 20),), "a", 0, 12, "circle")
        self.assertIn("\ngrain 12\n", write_report(report))
        self.same(told(read_report(write_report(report))), told(report))


class ReadTest(ShardCase):
    def compare(self, text):
        expected = told_by(text)
        if expected is None:
            self.fails(ReportError, read_report, text)
        else:
            report = read_report(text)
            self.same(told(report), expected, text)
            self.assertIs(type(report), Report)
        return expected is not None

    def texts(self, seed, count):
        return [write_report(assemble(*votes)) for votes in some_votes(seed, count)]

    def test_what_was_written(self):
        for votes in some_votes(902, 200):
            report = assemble(*votes)
            text = write_report(report)
            self.assertTrue(self.compare(text), text)
            self.same(told(read_report(text)), told(report))
            self.same(write_report(read_report(text)), text)
        report = read_report(text)
        self.same(report.paper(report.pieces[0]), decide(report.pieces, report.grain, report.pieces[0], report.shape))

    def test_lines_left_out_doubled_and_exchanged(self):
        counts = {True: 0, False: 0}
        for text in self.texts(903, 60):
            lines = text.splitlines(True)
            for at in range(len(lines)):
                others = [lines[:at] + lines[at + 1:], lines[:at + 1] + lines[at:]]
                if at + 1 < len(lines):
                    others.append(lines[:at] + [lines[at + 1], lines[at]] + lines[at + 2:])
                for other in others:
                    counts[self.compare("".join(other))] += 1
        self.assertGreater(min(counts.values()), 20)

    def test_characters_left_out_put_in_and_changed(self):
        source = chance(904)
        counts = {True: 0, False: 0}
        for text in self.texts(905, 60):
            for _ in range(25):
                at = source.randrange(len(text) + 1)
                sign = source.choice(" \n\r\t%ab!~0129+-\x00\x7f\x85\u00e9\u0661\u2028x")
                for other in (text[:at] + text[at + 1:], text[:at] + sign + text[at:], text[:at] + sign + text[at + 1:]):
                    counts[self.compare(other)] += 1
        self.assertGreater(min(counts.values()), 50)

    def test_each_part(self):
        parts = ("text abcd", "sure +-+-", "grain 2", "shape line", "piece abc", "piece bcd", "example abcd", "always abcd")
        self.assertTrue(self.compare("\n".join(parts) + "\n"))
        changes = {
            0: ("", "text", "text ", "text abc", "text abcde", "text a cd", "text  abcd", "text abc%", " text abcd",
                "text abcd ", "Text abcd", "texts abcd", "text\tabcd", "abcd", "text abc\u00e9"),
            1: ("sure ++++", "sure +-+", "sure +-+-+", "sure +-+*", "sure ", "sure", "sure +-+ "),
            2: ("grain 02", "grain 2 ", "grain +2", "grain -2", "grain 0", "grain 13", "grain 1", "grain 3", "grain 4",
                "grain", "grain ", "grain 2.", "grain 0000000002", "grain 1000000002", "grain 999999999", "grain two",
                "grain \u0662", "grain 2_0", "grain 0x2", "grain 12"),
            3: ("shape circle", "shape", "shape Line", "shape lines", "shape ", "shape line "),
            4: ("piece", "piece ", "piece a", "piece abd", "piece abcd", "pieces abc", "piece a%c", "piece abc abc",
                "piece " + "abc" * 20, "piece " + "abc" * 21),
            6: ("none", "none ", "example", "example ", "example abc", "example abcdabcd", "none abcd", "example none",
                "example ab%d", "none\nnone", "example abcd\nexample abcd", "example abcdd"),
            7: ("lacking abcd", "always", "always ", "always abc", "abcd always", "Always abcd", "always abcd abcd",
                "always abcd\nalways abcd", "always abcd\nlacking bcd", "maybe abcd", "none", "piece abcd"),
        }
        for at, others in changes.items():
            for other in others:
                self.compare("\n".join(parts[:at] + (other,) + parts[at + 1:]) + "\n")
        for other in ("", "\n", "\n".join(parts), "\n".join(parts) + "\n\n", "\n" + "\n".join(parts) + "\n",
                      "\r\n".join(parts) + "\r\n", "none\n", "text\n"):
            self.assertFalse(self.compare(other), other)

    def test_all_beginnings(self):
        for text in self.texts(906, 30):
            lines = text.splitlines(True)
            for size in range(len(lines)):
                self.compare("".join(lines[:size]))
            for size in range(len(text)):
                self.compare(text[:size])

    def test_an_empty_text(self):
        text = "text ab\nsure ++\ngrain 2\nshape line\npiece ab\nexample ab\nalways ab\n"
        self.assertTrue(self.compare(text))
        self.assertFalse(self.compare(text.replace("text ab", "text ").replace("++", "")))

    def test_many_pieces(self):
        def text(shape, pieces):
            head = f"text ab\nsure ++\ngrain 2\nshape {shape}\n" + "piece ab\n" * pieces
            return head + ("none\n" if shape == "circle" else "example ab\n") + "always ab\n"

        for shape, pieces, expected in (("line", 8, True), ("line", 9, False), ("line", 0, False), ("circle", 40, True),
                                        ("circle", 41, False), ("circle", 0, False)):
            self.same(self.compare(text(shape, pieces)), expected)

    def test_none_although_there_is_a_text(self):
        text = "text ab\nsure ++\ngrain 2\nshape line\npiece ab\nnone\nalways ab\n"
        self.assertFalse(self.compare(text))
        self.assertTrue(self.compare(text.replace("line", "circle")))
        self.assertTrue(self.compare(text.replace("none", "example ab")))

    def test_another_example_and_another_text(self):
        text = "text ab\nsure ++\ngrain 1\nshape circle\npiece ab\nexample ab\nalways a\nalways b\n"
        self.assertTrue(self.compare(text))
        self.assertTrue(self.compare(text.replace("example ab", "example bba")))
        self.assertTrue(self.compare(text.replace("text ab", "text xy").replace("++", "--")))
        self.assertFalse(self.compare(text.replace("always a\n", "lacking a\n")))
