"""Looking for a line that lacks a word, among all states that are reached."""

from textshards.grains import grams_of
from textshards.lines import LineReader, is_done


def explored(pieces, grain, word):
    """The states that are reached, as keys, each with the state before it and the letter, and a done state.

    Where no done state is reached, None is in its place, and the states are all that are reached.
    """
    reader = LineReader(pieces, grain, word)
    firsts = [reader.first(gram) for gram in grams_of(pieces, grain)]
    came = {state: None for state in firsts if state is not None}
    queue = list(came)
    at = 0
    while at < len(queue):
        state = queue[at]
        if is_done(pieces, state):
            return came, state
        for letter, other in reader.ways(state):
            if other not in came:
                came[other] = (state, letter)
                queue.append(other)
        at += 1
    return came, None


def text_read(came, state):
    """The text that was read on the way to the state."""
    letters = []
    while came[state] is not None:
        state, letter = came[state]
        letters.append(letter)
    gram = state[0]
    return gram + "".join(letters[::-1])


def lacking_line(pieces, grain, word):
    """A line that explains the shards and lacks the word, or None if there is none."""
    came, last = explored(pieces, grain, word)
    if last is None:
        return None
    return text_read(came, last)


def line_paper(pieces, grain, word):
    """A paper for a word that is certain for lines: all states that are reached."""
    came, _ = explored(pieces, grain, word)
    return tuple(sorted(list(came)))
