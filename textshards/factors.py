"""Texts as letters and copies of what was there before."""

from textshards.errors import RangeError, TooLarge
from textshards.index import TEXT_LIMIT


def copied(text, back, count):
    """The letters that a copy puts behind the text."""
    if not 1 <= back <= len(text) or count < 1:
        raise RangeError(f"no copy of {count} letters from {back} positions before, behind {len(text)} letters")
    if len(text) + count > TEXT_LIMIT:
        raise RangeError(f"a copy of {count} letters makes the text too long")
    # A copy that is longer than its way back repeats what it put there itself.
    return (text[len(text) - back:] * (count // back + 1))[:count]


def unfold(factors):
    """The text that has these factors."""
    text = ""
    for factor in factors:
        text = text + (factor[1] if factor[0] == "letter" else copied(text, factor[1], factor[2]))
        if len(text) > TEXT_LIMIT:
            raise RangeError(f"the text has more than {TEXT_LIMIT} letters")
    return text


def longest_copy(text, at):
    """The pair (back, count) of the longest copy at the position with the least back; (1, 0) if there is none."""
    start, count = at - 1, 0
    while at + count < len(text):
        # What occurs with one letter more occurs without it, too: no later place needs to be tried again.
        found = text.rfind(text[at:at + count + 1], 0, start + count + 1)
        if found == -1:
            break
        start, count = found, count + 1
    return at - start, count


def fold(text):
    """The factors of the text that are found from the front on."""
    if len(text) > TEXT_LIMIT:
        raise TooLarge(f"a text has at most {TEXT_LIMIT} letters, not {len(text)}")
    factors = []
    at = 0
    while at < len(text):
        back, count = longest_copy(text, at)
        factors.append(("copy", back, count) if count > 0 else ("letter", text[at]))
        at += max(count, 1)
    return tuple(factors)
