"""States and ways of circles that lack a word."""

from textshards.checks import check_word
from textshards.grains import check_shards, grams_of, letters_by_gram, letters_of
from textshards.texts import advances


class CircleReader:
    """The ways of circles that lack one word, for many steps."""

    def __init__(self, pieces, grain, word):
        self.following = letters_by_gram(pieces, grain)
        self.moves = advances(word, letters_of(pieces))

    def after(self, state, letter):
        """The state to which the way by the letter leads, or None if there is no way."""
        gram, matched = state
        if letter not in self.following.get(gram, ""):
            return None
        matched = self.moves[matched][letter]
        if matched == len(self.moves):
            return None
        return (gram + letter)[1:], matched

    def ways(self, state):
        """The pairs (letter, state) of all ways from a state, ascending by letter."""
        pairs = [(letter, self.after(state, letter)) for letter in self.following[state[0]]]
        return [(letter, other) for letter, other in pairs if other is not None]


def circle_states(pieces, grain, word):
    """All states, ascending."""
    check_shards(pieces, grain)
    check_word(word)
    return tuple([(gram, matched) for gram in grams_of(pieces, grain) for matched in range(len(word))])


def circle_way(pieces, grain, word, state, letter):
    """The state to which the way by the letter leads, or None if there is no way."""
    check_shards(pieces, grain)
    check_word(word)
    return CircleReader(pieces, grain, word).after(state, letter)
