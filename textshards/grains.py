"""Shards, their windows and their grams."""

from textshards.errors import GrainError, TooLarge

GRAIN_LIMIT = 12
PIECE_LIMIT = 40
LETTER_LIMIT = 60


def check_grain(grain):
    """Raise GrainError for a grain out of its range."""
    if not 1 <= grain <= GRAIN_LIMIT:
        raise GrainError(f"a grain is from 1 to {GRAIN_LIMIT}, not {grain}")


def check_piece(piece, grain):
    """Raise an error for a piece that is too short or too long."""
    if len(piece) < grain:
        raise GrainError(f"a piece has at least {grain} letters, not {len(piece)}")
    if len(piece) > LETTER_LIMIT:
        raise TooLarge(f"a piece has at most {LETTER_LIMIT} letters, not {len(piece)}")


def check_shards(pieces, grain):
    """Raise an error if the pieces and the grain are no shards."""
    check_grain(grain)
    if len(pieces) == 0:
        raise GrainError("there are no pieces")
    if len(pieces) > PIECE_LIMIT:
        raise TooLarge(f"there are at most {PIECE_LIMIT} pieces, not {len(pieces)}")
    for piece in pieces:
        check_piece(piece, grain)


def windows_in(texts, grain):
    """The windows of any texts, each once, in alphabetical order."""
    return tuple(sorted({text[at:at + grain] for text in texts for at in range(len(text) - grain + 1)}))


def windows_of(pieces, grain):
    """The windows of the shards, each once, in alphabetical order."""
    check_shards(pieces, grain)
    return windows_in(pieces, grain)


def grams_of(pieces, grain):
    """The grams of the shards, each once, in alphabetical order."""
    windows = windows_of(pieces, grain)
    return tuple(sorted(set([window[:-1] for window in windows] + [window[1:] for window in windows])))


def letters_after(pieces, grain, gram):
    """The text of all letters, ascending, that make a window when they are put behind the gram."""
    return "".join([window[-1] for window in windows_of(pieces, grain) if window[:-1] == gram])


def letters_by_gram(pieces, grain):
    """For each gram of the shards the text of all letters, ascending, that make a window behind it."""
    following = {gram: "" for gram in grams_of(pieces, grain)}
    for window in windows_of(pieces, grain):
        following[window[:-1]] += window[-1]
    return following


def letters_of(pieces):
    """The text of all letters of the pieces, ascending."""
    return "".join(sorted(set("".join(pieces))))
