"""Reports as texts: written, and read again with all that can be seen to be wrong refused."""

from textshards.assembly import Report, findings_of
from textshards.certain import check_many, some_text
from textshards.checks import SHAPES
from textshards.errors import ReportError, ShardError
from textshards.explaining import explains
from textshards.grains import check_shards

DIGITS = "0123456789"
DIGIT_LIMIT = 9
# The letters by their codes: all between these, but for one.
FIRST_CODE = 33
LAST_CODE = 126
NO_LETTER_CODE = 37


def write_report(report):
    """The report as a text of lines."""
    lines = [f"text {report.consensus}", f"sure {report.sure}", f"grain {report.grain}", f"shape {report.shape}"]
    lines.extend([f"piece {piece}" for piece in report.pieces])
    lines.append("none" if report.example == "" else f"example {report.example}")
    lines.extend([f"{answer} {strand}" for strand, answer in report.findings])
    return "".join([line + "\n" for line in lines])


def rows_of(text):
    """The words of each line."""
    if not text.endswith("\n"):
        raise ReportError("the last line does not end")
    return [line.split(" ") for line in text[:-1].split("\n")]


def worth(rows, at, names):
    """The second word of a line of two words, of which the first one is one of the names."""
    if at >= len(rows) or len(rows[at]) != 2 or rows[at][0] not in names:
        raise ReportError(f"line {at} is not one of {names}")
    return rows[at][1]


def is_letter(sign):
    """Whether the character is a letter."""
    code = ord(sign)
    return FIRST_CODE <= code <= LAST_CODE and code != NO_LETTER_CODE


def text_of(rows, at, names):
    """The text in a line."""
    text = worth(rows, at, names)
    if text == "" or not all([is_letter(sign) for sign in text]):
        raise ReportError(f"line {at} has no text of letters")
    return text


def number_of_line(rows, at, name):
    """The number in a line."""
    digits = worth(rows, at, (name,))
    if not 1 <= len(digits) <= DIGIT_LIMIT or not all([sign in DIGITS for sign in digits]):
        raise ReportError(f"line {at} has no number")
    if digits[0] == "0":
        raise ReportError(f"the number in line {at} has a leading zero")
    return int(digits)


def sure_of(rows, at, size):
    """The signs that tell which letters are sure, one for each of the text."""
    signs = worth(rows, at, ("sure",))
    if len(signs) != size or not all([sign in "+-" for sign in signs]):
        raise ReportError("not a sign for each letter")
    return signs


def pieces_of(rows, at):
    """The pieces in the lines from this one on."""
    pieces = []
    while at + len(pieces) < len(rows) and rows[at + len(pieces)][0] == "piece":
        pieces.append(text_of(rows, at + len(pieces), ("piece",)))
    return tuple(pieces)


def shards_of(rows):
    """The pieces, the grain and the shape, all of which fit together."""
    grain = number_of_line(rows, 2, "grain")
    shape = worth(rows, 3, ("shape",))
    pieces = pieces_of(rows, 4)
    if shape not in SHAPES:
        raise ReportError(f"no shape {shape}")
    try:
        check_shards(pieces, grain)
        check_many(pieces, shape)
    except ShardError:
        raise ReportError("the pieces, the grain and the shape do not fit together") from None
    return pieces, grain, shape


def example_of(rows, at, shards):
    """The text in the line that explains the shards, or the empty one if there is none."""
    pieces, grain, shape = shards
    if at < len(rows) and rows[at] == ["none"]:
        if some_text(pieces, grain, shape) is not None:
            raise ReportError("there is a text that explains the pieces")
        return ""
    text = text_of(rows, at, ("example",))
    if not explains(pieces, grain, text, shape):
        raise ReportError("the example does not explain the pieces")
    return text


def findings_in(rows, at, shards):
    """The findings in all lines from this one on."""
    pieces, grain, shape = shards
    strands = [text_of(rows, number, ("always", "lacking")) for number in range(at, len(rows))]
    findings = tuple([(strand, row[0]) for strand, row in zip(strands, rows[at:])])
    if findings != findings_of(pieces, grain, shape):
        raise ReportError("the findings are not those of the pieces")
    return findings


def read_report(text):
    """The report that the text tells."""
    rows = rows_of(text)
    consensus = text_of(rows, 0, ("text",))
    sure = sure_of(rows, 1, len(consensus))
    shards = shards_of(rows)
    at = 4 + len(shards[0])
    told = example_of(rows, at, shards)
    return Report(consensus, sure, shards, told, findings_in(rows, at + 1, shards))
