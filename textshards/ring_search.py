"""Looking for a circle that lacks a word, and for the levels that show that there is none."""

from textshards.grains import grams_of
from textshards.papers import readings
from textshards.rings import CircleReader, circle_states
from textshards.texts import advance


def matched_after(word, text):
    """How much of the word is matched after the text, or None if the word occurs in it."""
    matched = 0
    for letter in text:
        matched = advance(word, matched, letter)
        if matched == len(word):
            return None
    return matched


def true_states(grams, word):
    """The states, as the keys of a dict, whose gram and number both belong to some text that was read.

    Ways lead from them to others of them only, and from any state to them within grain - 1 letters.
    """
    states = {}
    for gram in grams:
        matched = matched_after(word, gram)
        if matched is not None:
            states[gram, matched] = True
    size = len(grams[0])
    known = {gram: True for gram in grams}
    # If more than a gram is matched, the word tells the gram.
    for matched in range(size, len(word)):
        gram = word[matched - size:matched]
        if gram in known:
            states[gram, matched] = True
    return states


def left_last(ways):
    """All states in the order in which a walk through all of them leaves them for good."""
    seen = {}
    order = []
    for first in ways:
        trail = [(first, 0)]
        while len(trail) > 0:
            state, at = trail.pop()
            if at == 0 and state in seen:
                continue
            seen[state] = True
            if at == len(ways[state]):
                order.append(state)
            else:
                trail.append((state, at + 1))
                trail.append((ways[state][at], 0))
    return order


def gathered(first, back, taken):
    """The states not yet taken from which one comes to the first one; they are taken now."""
    states = {}
    trail = [first]
    while len(trail) > 0:
        state = trail.pop()
        if state not in taken:
            taken[state] = True
            states[state] = True
            trail.extend(back[state])
    return states


def linked(ways):
    """The states in groups, within which they lead to each other; no way leads to an earlier group."""
    back = {state: [] for state in ways}
    for state in ways:
        for other in ways[state]:
            back[other].append(state)
    taken = {}
    groups = []
    for first in reversed(left_last(ways)):
        if first not in taken:
            groups.append(gathered(first, back, taken))
    return groups


def groups_of(reader, grams, word):
    """The true states in groups, within which they lead to each other."""
    states = true_states(grams, word)
    return linked({state: [other for _, other in reader.ways(state)] for state in states})


def gap_of(reader, pieces, states):
    """The index of the first piece that cannot be read within the states, or None if all can."""
    for at, piece in enumerate(pieces):
        if len(readings(reader, states, piece)) == 0:
            return at
    return None


def path(reader, states, start, goals):
    """The letters of a shortest path within the states to one of the goals, and this goal."""
    letters = {start: ""}
    queue = [start]
    at = 0
    while queue[at] not in goals:
        state = queue[at]
        for letter, other in reader.ways(state):
            if other in states and other not in letters:
                letters[other] = letters[state] + letter
                queue.append(other)
        at += 1
    return letters[queue[at]], queue[at]


def circle_within(reader, pieces, states):
    """A circle that is read within a group of states and has all pieces, which can be read there."""
    state, home = list(readings(reader, states, pieces[0]).items())[0]
    text = pieces[0]
    for piece in pieces:
        if piece not in text:
            end_of = {start: end for end, start in readings(reader, states, piece).items()}
            letters, start = path(reader, states, state, end_of)
            text = text + letters + piece
            state = end_of[start]
    letters, _ = path(reader, states, state, {home: True})
    return text + letters


def lacking_circle(pieces, grain, word):
    """A circle that explains the shards and lacks the word, or None if there is none."""
    reader = CircleReader(pieces, grain, word)
    for states in groups_of(reader, grams_of(pieces, grain), word):
        if gap_of(reader, pieces, states) is None:
            return circle_within(reader, pieces, states)
    return None


def circle_paper(pieces, grain, word):
    """A paper for a word that is certain for circles."""
    reader = CircleReader(pieces, grain, word)
    level_of = {}
    # No piece is as short as to be read in states that belong to no text: they have level 0.
    gaps = [(0, 0)]
    for states in groups_of(reader, grams_of(pieces, grain), word):
        level = len(gaps)
        gaps.append((level, gap_of(reader, pieces, states)))
        for state in states:
            level_of[state] = level
    states = circle_states(pieces, grain, word)
    levels = [(gram, matched, level_of.get((gram, matched), 0)) for gram, matched in states]
    if len(level_of) == len(states):
        gaps = gaps[1:]
    return tuple(levels), tuple(gaps)
