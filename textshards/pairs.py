"""Lines that explain shards and keep pairs of words at given distances."""

from textshards.checks import check_word
from textshards.errors import EmptyText, RangeError, TooLarge
from textshards.grains import check_shards
from textshards.pair_search import PairSearch

TOGETHER_LIMIT = 6
PAIR_WORD_LIMIT = 12
FAR_LIMIT = 12
# Where any line will do: the greater, the more straight the search goes to the next word.
HASTE = 10


def check_pair(pair):
    """Raise an error for a pair with a word or numbers out of their range."""
    one, other, low, high = pair
    if one == "" or other == "":
        raise EmptyText("a word of a pair has at least one letter")
    if len(one) > PAIR_WORD_LIMIT or len(other) > PAIR_WORD_LIMIT:
        raise TooLarge(f"a word of a pair has at most {PAIR_WORD_LIMIT} letters")
    if not 0 <= low <= high <= FAR_LIMIT:
        raise RangeError(f"the words of a pair are from 0 to {FAR_LIMIT} letters apart, not from {low} to {high}")


def check_pairs(pieces, grain, pairs):
    """Raise an error for shards or pairs that are not well formed."""
    check_shards(pieces, grain)
    if len(pieces) + len(pairs) > TOGETHER_LIMIT:
        raise TooLarge(f"there are at most {TOGETHER_LIMIT} pieces and pairs together")
    for pair in pairs:
        check_pair(pair)


def places_of(text, word):
    """All positions from which on the text has the word, which may be empty."""
    return [at for at in range(len(text) + 1) if text[at:at + len(word)] == word]


def keeps(text, pair):
    """Whether the text has the two words of the pair as far apart as it asks."""
    one, other, low, high = pair
    later = {place: True for place in places_of(text, other)}
    return any([place + far in later for place in places_of(text, one) for far in range(low, high + 1)])


def decide_with_pairs(pieces, grain, pairs, word):
    """A pair of "lacking" and a text that explains the shards with the pairs without the word, or "always" and ()."""
    check_pairs(pieces, grain, pairs)
    check_word(word)
    text = PairSearch(pieces, grain, pairs, (word,), HASTE).line()
    return ("always", ()) if text is None else ("lacking", text)


def shortest_with_pairs(pieces, grain, pairs):
    """The shortest text that explains the shards with the pairs, of several the least one, or None."""
    check_pairs(pieces, grain, pairs)
    return PairSearch(pieces, grain, pairs, (), 1).line()
