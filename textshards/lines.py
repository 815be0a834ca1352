"""States and ways of lines that lack a word."""

from textshards.checks import check_word
from textshards.errors import TooLarge
from textshards.grains import check_shards, grams_of, letters_after
from textshards.texts import advance

LINE_LIMIT = 8


def check_line(pieces, grain, word):
    """Raise an error for shards or a word that the functions for lines do not take."""
    check_shards(pieces, grain)
    check_word(word)
    if len(pieces) > LINE_LIMIT:
        raise TooLarge(f"for lines there are at most {LINE_LIMIT} pieces, not {len(pieces)}")


def longest_tail(pieces, read):
    """The longest end of what was read that is a beginning of a piece."""
    start = 0
    while not any([piece.startswith(read[start:]) for piece in pieces]):
        start += 1
    return read[start:]


def read_letter(pieces, word, reading, letter):
    """What (tail, matched, found) become by the letter, or None if the word occurs."""
    tail, matched, found = reading
    matched = advance(word, matched, letter)
    if matched == len(word):
        return None
    # A piece that has just occurred is an end of the tail: whole pieces are tails.
    tail = longest_tail(pieces, tail + letter)
    found = [at for at, piece in enumerate(pieces) if at in found or tail.endswith(piece)]
    return tail, matched, tuple(found)


def first_state(pieces, word, gram):
    """The state after the letters of the gram were read, or None if the word occurs in it."""
    reading = ("", 0, ())
    for letter in gram:
        reading = read_letter(pieces, word, reading, letter)
        if reading is None:
            return None
    return gram, *reading


def first_states(pieces, grain, word):
    """The first states, ascending."""
    check_line(pieces, grain, word)
    states = [first_state(pieces, word, gram) for gram in grams_of(pieces, grain)]
    return tuple([state for state in states if state is not None])


def line_way(pieces, grain, word, state, letter):
    """The state to which the way by the letter leads, or None if there is no way."""
    check_line(pieces, grain, word)
    gram, tail, matched, found = state
    if letter not in letters_after(pieces, grain, gram):
        return None
    reading = read_letter(pieces, word, (tail, matched, found), letter)
    if reading is None:
        return None
    return (gram + letter)[1:], *reading
