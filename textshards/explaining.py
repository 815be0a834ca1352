"""Whether a text explains shards."""

from textshards.checks import check_shape
from textshards.circles import circle_has, unrolled
from textshards.grains import check_shards, windows_in


def has_only_windows_of(pieces, grain, text):
    """Whether every window of the text is a window of the shards."""
    known = {window: True for window in windows_in(pieces, grain)}
    return all([window in known for window in windows_in((text,), grain)])


def explains_as_circle(pieces, grain, text):
    """Whether the text explains the shards as a circle."""
    if text == "" or not all([circle_has(text, piece) for piece in pieces]):
        return False
    return has_only_windows_of(pieces, grain, unrolled(text, len(text) + grain - 1))


def explains_as_line(pieces, grain, text):
    """Whether the text explains the shards as a line."""
    if not all([piece in text for piece in pieces]):
        return False
    return has_only_windows_of(pieces, grain, text)


def explains(pieces, grain, text, shape):
    """Whether the text explains the shards in this shape."""
    check_shards(pieces, grain)
    check_shape(shape)
    if shape == "circle":
        return explains_as_circle(pieces, grain, text)
    return explains_as_line(pieces, grain, text)
