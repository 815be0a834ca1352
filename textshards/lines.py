"""States and ways of lines that lack a word."""

from textshards.checks import check_word
from textshards.errors import TooLarge
from textshards.grains import check_shards, grams_of, letters_by_gram, letters_of
from textshards.texts import advances

LINE_LIMIT = 8


def check_line_limit(pieces):
    """Raise TooLarge for more pieces than the functions for lines take."""
    if len(pieces) > LINE_LIMIT:
        raise TooLarge(f"for lines there are at most {LINE_LIMIT} pieces, not {len(pieces)}")


def check_line(pieces, grain, word):
    """Raise an error for shards or a word that the functions for lines do not take."""
    check_shards(pieces, grain)
    check_word(word)
    check_line_limit(pieces)


def tail_moves(pieces, letters):
    """For each tail, what it becomes by each of the letters."""
    tails = {piece[:size]: True for piece in pieces for size in range(len(piece) + 1)}
    shorter = {"": ""}
    moves = {}
    # Short tails come first: a tail that does not go on gives way to the longest end of it that is a tail.
    for tail in sorted(list(tails), key=len):
        if len(tail) > 0:
            shorter[tail] = "" if len(tail) == 1 else moves[shorter[tail[:-1]]][tail[-1]]
        row = {}
        for letter in letters:
            if tail + letter in tails:
                row[letter] = tail + letter
            else:
                row[letter] = "" if tail == "" else moves[shorter[tail]][letter]
        moves[tail] = row
    return moves


def is_done(pieces, state):
    """Whether all pieces are found."""
    return len(state[3]) == len(pieces)


class LineReader:
    """The states and ways of lines that lack one word, for many steps."""

    def __init__(self, pieces, grain, word):
        letters = letters_of(pieces)
        self.following = letters_by_gram(pieces, grain)
        self.moves = advances(word, letters)
        self.tails = tail_moves(pieces, letters)
        # A piece that has just occurred is an end of the tail: whole pieces are tails.
        self.ended = {tail: [at for at, piece in enumerate(pieces) if tail.endswith(piece)] for tail in self.tails}

    def read(self, state, letter):
        """The state after the letter, which need not make a window, or None if the word occurs."""
        gram, tail, matched, found = state
        matched = self.moves[matched][letter]
        if matched == len(self.moves):
            return None
        tail = self.tails[tail][letter]
        if len(self.ended[tail]) > 0:
            found = tuple(sorted(set(list(found) + self.ended[tail])))
        return (gram + letter)[1:], tail, matched, found

    def first(self, gram):
        """The first state of a gram, or None if the word occurs in it."""
        state = (gram, "", 0, ())
        # Each letter that is read leaves the gram at its front, so in the end the gram is back.
        for letter in gram:
            state = self.read(state, letter)
            if state is None:
                return None
        return state

    def after(self, state, letter):
        """The state to which the way by the letter leads, or None if there is no way."""
        if letter not in self.following.get(state[0], ""):
            return None
        return self.read(state, letter)

    def ways(self, state):
        """The pairs (letter, state) of all ways from a state, ascending by letter."""
        pairs = [(letter, self.read(state, letter)) for letter in self.following[state[0]]]
        return [(letter, other) for letter, other in pairs if other is not None]


def first_states(pieces, grain, word):
    """The first states, ascending."""
    check_line(pieces, grain, word)
    reader = LineReader(pieces, grain, word)
    states = [reader.first(gram) for gram in grams_of(pieces, grain)]
    return tuple([state for state in states if state is not None])


def line_way(pieces, grain, word, state, letter):
    """The state to which the way by the letter leads, or None if there is no way."""
    check_line(pieces, grain, word)
    return LineReader(pieces, grain, word).after(state, letter)
