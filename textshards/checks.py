"""Checks of arguments that several parts of the program share."""

from textshards.errors import EmptyText, RangeError, ShapeError, TooLarge

WORD_LIMIT = 60
SHAPES = ("circle", "line")


def check_alphabet(alphabet):
    """Raise RangeError for a text that is no alphabet."""
    if alphabet == "":
        raise RangeError("an alphabet has at least one letter")
    for at in range(1, len(alphabet)):
        if alphabet[at - 1] >= alphabet[at]:
            raise RangeError(f"the letters of an alphabet strictly ascend, not as in {alphabet}")


def check_shape(shape):
    """Raise ShapeError for a string that is no shape."""
    if shape not in SHAPES:
        raise ShapeError(f"a shape is circle or line, not {shape}")


def check_word(word):
    """Raise an error for a word of which it is not asked whether it is certain."""
    if word == "":
        raise EmptyText("the word has no letter")
    if len(word) > WORD_LIMIT:
        raise TooLarge(f"a word has at most {WORD_LIMIT} letters, not {len(word)}")
