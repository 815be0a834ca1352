"""States and ways of circles that lack a word."""

from textshards.checks import check_word
from textshards.grains import check_shards, grams_of, letters_after
from textshards.texts import advance


def circle_states(pieces, grain, word):
    """All states, ascending."""
    check_shards(pieces, grain)
    check_word(word)
    return tuple([(gram, matched) for gram in grams_of(pieces, grain) for matched in range(len(word))])


def circle_way(pieces, grain, word, state, letter):
    """The state to which the way by the letter leads, or None if there is no way."""
    check_shards(pieces, grain)
    check_word(word)
    gram, matched = state
    if letter not in letters_after(pieces, grain, gram):
        return None
    matched = advance(word, matched, letter)
    if matched == len(word):
        return None
    return (gram + letter)[1:], matched
