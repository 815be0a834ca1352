"""Papers that anybody can check: they show that a word is certain."""

from textshards.checks import check_word
from textshards.grains import check_shards, grams_of
from textshards.lines import LineReader, check_line, is_done
from textshards.rings import CircleReader, circle_states


def readings(reader, states, piece):
    """For each state at which the piece can end when it is read within the states, one from which it can.

    The states are the keys of a dict.
    """
    starts = {state: state for state in states}
    for letter in piece:
        if len(starts) == 0:
            return starts
        # States that come together stay together, so one of them stands for all.
        steps = {reader.after(end, letter): start for end, start in starts.items()}
        starts = {end: start for end, start in steps.items() if end in states}
    return starts


def has_levels(states, paper):
    """Whether the paper has a level for each of the states, and a piece for each of the levels."""
    levels, gaps = paper
    if tuple([(gram, matched) for gram, matched, _ in levels]) != states:
        return False
    numbers = sorted({level for _, _, level in levels})
    return numbers[0] >= 0 and [level for level, _ in gaps] == numbers


def never_falls(reader, level_of):
    """Whether no way leads to a smaller level."""
    for state, level in level_of.items():
        if not all([level_of[other] >= level for _, other in reader.ways(state)]):
            return False
    return True


def lacks_its_piece(reader, pieces, states, at):
    """Whether there is a piece with this index, and it cannot be read within the states."""
    if not 0 <= at < len(pieces):
        return False
    return len(readings(reader, states, pieces[at])) == 0


def check_circle_paper(pieces, grain, word, paper):
    """Whether the paper shows that the word is certain for circles."""
    if not has_levels(circle_states(pieces, grain, word), paper):
        return False
    levels, gaps = paper
    reader = CircleReader(pieces, grain, word)
    if not never_falls(reader, {(gram, matched): level for gram, matched, level in levels}):
        return False
    members = {level: {} for level, _ in gaps}
    for gram, matched, level in levels:
        members[level][gram, matched] = True
    return all([lacks_its_piece(reader, pieces, members[level], at) for level, at in gaps])


def check_line_paper(pieces, grain, word, paper):
    """Whether the paper shows that the word is certain for lines."""
    check_line(pieces, grain, word)
    reader = LineReader(pieces, grain, word)
    known = {state: True for state in paper}
    if not all([paper[at - 1] < paper[at] for at in range(1, len(paper))]):
        return False
    firsts = [reader.first(gram) for gram in grams_of(pieces, grain)]
    if not all([state in known for state in firsts if state is not None]):
        return False
    for state in paper:
        if is_done(pieces, state) or not all([other in known for _, other in reader.ways(state)]):
            return False
    return True
