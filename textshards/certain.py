"""What is certain: a paper that shows it, or a text that lacks the word."""

from textshards.checks import WORD_LIMIT, check_shape, check_word
from textshards.errors import RangeError
from textshards.grains import check_shards
from textshards.line_search import lacking_line, line_paper
from textshards.lines import check_line_limit
from textshards.ring_search import circle_paper, lacking_circle

# Not a letter, so no text has it: every text that explains the shards lacks it.
NO_LETTER = "\n"


def check_most(most):
    """Raise RangeError for a number of letters that no word may have of which it is asked."""
    if not 1 <= most <= WORD_LIMIT:
        raise RangeError(f"a number of letters is from 1 to {WORD_LIMIT}, not {most}")


def check_many(pieces, shape):
    """Raise TooLarge for more pieces than may be given in this shape."""
    if shape == "line":
        check_line_limit(pieces)


def lacking_text(pieces, grain, word, shape):
    """A text that explains the shards and lacks the word, which is of any length, or None."""
    if shape == "circle":
        return lacking_circle(pieces, grain, word)
    return lacking_line(pieces, grain, word)


def some_text(pieces, grain, shape):
    """A text that explains the shards, or None."""
    return lacking_text(pieces, grain, NO_LETTER, shape)


def decide(pieces, grain, word, shape):
    """A pair of "always" and a paper, or of "lacking" and a text that explains the shards without the word."""
    check_shards(pieces, grain)
    check_shape(shape)
    check_word(word)
    check_many(pieces, shape)
    text = lacking_text(pieces, grain, word, shape)
    if text is not None:
        return "lacking", text
    if shape == "circle":
        return "always", circle_paper(pieces, grain, word)
    return "always", line_paper(pieces, grain, word)


def example(pieces, grain, shape):
    """A text that explains the shards, or None if there is none."""
    check_shards(pieces, grain)
    check_shape(shape)
    check_many(pieces, shape)
    return some_text(pieces, grain, shape)
