"""Words and overlaps that are found although some letters differ."""

from textshards.errors import EmptyText, RangeError


def differing(one, other):
    """At how many positions two texts of equal length differ."""
    return len([at for at, letter in enumerate(one) if letter != other[at]])


def check_most(most):
    """Raise RangeError for a negative number of positions that may differ."""
    if most < 0:
        raise RangeError(f"at least 0 positions may differ, not {most}")


def mismatches(one, other):
    """At how many positions two texts of equal length differ."""
    if len(one) != len(other):
        raise RangeError(f"texts of {len(one)} and {len(other)} letters are not compared")
    return differing(one, other)


def near_starts(text, word, most):
    """The positions at which the text differs from the word at most at most positions, ascending."""
    if word == "":
        raise EmptyText("the word has no letter")
    check_most(most)
    size = len(word)
    return tuple([at for at in range(len(text) - size + 1) if differing(word, text[at:at + size]) <= most])


def tolerant_overlaps(one, other, least, most):
    """The pairs (length, mismatches) of all overlaps that differ at most at most positions, ascending."""
    if least < 1:
        raise RangeError(f"the least overlap has at least 1 letter, not {least}")
    check_most(most)
    lengths = range(least, min(len(one), len(other)))
    pairs = [(length, differing(one[len(one) - length:], other[:length])) for length in lengths]
    return tuple([(length, count) for length, count in pairs if count <= most])
