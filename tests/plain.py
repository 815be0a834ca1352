"""The plain words of the document, tried by brute force: slow, and written without the program."""

from functools import lru_cache
from itertools import product


def texts_over(alphabet, most, least=0):
    """All texts over the alphabet with least to most letters."""
    return ["".join(letters) for size in range(least, most + 1) for letters in product(alphabet, repeat=size)]


def words_in(text):
    """All words that occur in the text, the empty one included."""
    return {text[low:high] for low in range(len(text) + 1) for high in range(low, len(text) + 1)}


def positions(text, word):
    return tuple(p for p in range(len(text)) if text[p:p + len(word)] == word)


def round_from(circle, p, count):
    """The count letters of the circle from the position p on."""
    return "".join(circle[(p + k) % len(circle)] for k in range(count))


def circle_positions(circle, word):
    return tuple(p for p in range(len(circle)) if round_from(circle, p, len(word)) == word)


def turns(circle):
    return [round_from(circle, p, len(circle)) for p in range(len(circle))]


def longest_end(read, beginnings):
    """The longest end of what was read that is one of the beginnings."""
    return max((read[p:] for p in range(len(read) + 1) if read[p:] in beginnings), key=len)


def beginnings_of(words):
    return {word[:size] for word in words for size in range(len(word) + 1)}


def matched_by(word, read):
    return len(longest_end(read, beginnings_of([word])))


def suffixes(text):
    return sorted(range(len(text)), key=lambda p: text[p:])


def common_beginning(one, other):
    return max(size for size in range(min(len(one), len(other)) + 1) if one[:size] == other[:size])


def longest_of(words):
    """Of the words the longest one, of several the least one."""
    return min(words, key=lambda word: (-len(word), word))


def rows(text):
    return sorted(text[p:] for p in range(len(text) + 1))


def transformed(text):
    column = ""
    for row in rows(text):
        if row != text:
            column += text[len(text) - len(row) - 1]
    return column, rows(text).index(text)


def stretches(column):
    found = []
    for letter in column:
        if found and found[-1][0] == letter:
            found[-1] = (letter, found[-1][1] + 1)
        else:
            found.append((letter, 1))
    return tuple(found)


def windows(texts, grain):
    return tuple(sorted({word for text in texts for word in words_in(text) if len(word) == grain}))


@lru_cache
def grams(pieces, grain):
    known = windows(pieces, grain)
    return tuple(sorted({window[:grain - 1] for window in known} | {window[1:] for window in known}))


@lru_cache
def letters_behind(pieces, grain, gram):
    letters = sorted({letter for piece in pieces for letter in piece})
    return "".join(letter for letter in letters if gram + letter in windows(pieces, grain))


def explains(pieces, grain, text, shape):
    if shape == "circle":
        if text == "":
            return False
        seen = {round_from(text, p, grain) for p in range(len(text))}
        occurring = all(circle_positions(text, piece) for piece in pieces)
    else:
        seen = set(windows([text], grain))
        occurring = all(piece in words_in(text) for piece in pieces)
    return occurring and seen <= set(windows(pieces, grain))


def strands(pieces, grain):
    """Each window goes to the front of its strand, or to the least window of its ring, and reads on from there."""
    known = windows(pieces, grain)

    def joined(one, other):
        gram = one[1:]
        begun = [window for window in known if window[:-1] == gram]
        ended = [window for window in known if window[1:] == gram]
        return begun == [other] and ended == [one]

    found = {}
    for window in known:
        row = [window]
        while True:
            before = [other for other in known if joined(other, row[0])]
            if not before or before[0] in row:
                break
            row.insert(0, before[0])
        ring = bool(before)
        while not ring:
            behind = [other for other in known if joined(row[-1], other)]
            if not behind:
                break
            row.append(behind[0])
        if ring:
            first = row.index(min(row))
            row = row[first:] + row[:first]
        found[tuple(row)] = row[0][:-1] + "".join(other[-1] for other in row)
    return tuple(sorted(found.values()))


def line_state(pieces, grain, word, read):
    """The state of a line after all that was read, or None if the word occurs in it."""
    if positions(read, word):
        return None
    found = tuple(at for at, piece in enumerate(pieces) if positions(read, piece))
    gram = read[len(read) - grain + 1:]
    return gram, longest_end(read, beginnings_of(pieces)), matched_by(word, read), found


def explaining(pieces, grain, shape, most):
    """All texts with at most most letters that explain the shards: only letters of the pieces can be in them."""
    letters = sorted({letter for piece in pieces for letter in piece})
    return [text for text in texts_over(letters, most, 1) if explains(pieces, grain, text, shape)]


def occurs(text, word, shape):
    return bool(circle_positions(text, word) if shape == "circle" else positions(text, word))


def circle_states(pieces, grain, word):
    return tuple(sorted((gram, matched) for gram in grams(pieces, grain) for matched in range(len(word))))


@lru_cache(100000)
def circle_way(pieces, grain, word, state, letter):
    gram, matched = state
    if letter not in letters_behind(pieces, grain, gram):
        return None
    matched = matched_by(word, word[:matched] + letter)
    if matched == len(word):
        return None
    return (gram + letter)[1:], matched


def circle_ways(pieces, grain, word, state):
    ways = [circle_way(pieces, grain, word, state, letter) for letter in letters_behind(pieces, grain, state[0])]
    return [other for other in ways if other]


def read_from(pieces, grain, word, state, piece, states):
    """Whether the piece can be read from the state within the states."""
    for letter in piece:
        if state not in states:
            return False
        state = circle_way(pieces, grain, word, state, letter)
    return state in states


def circle_paper(pieces, grain, word, paper):
    """Whether the circle paper is accepted."""
    levels, gaps = paper
    if tuple((gram, matched) for gram, matched, _ in levels) != circle_states(pieces, grain, word):
        return False
    numbers = {level for _, _, level in levels}
    if min(numbers) < 0 or [level for level, _ in gaps] != sorted(numbers):
        return False
    if not all(0 <= at < len(pieces) for _, at in gaps):
        return False
    level_of = {(gram, matched): level for gram, matched, level in levels}
    for state in level_of:
        if any(level_of[other] < level_of[state] for other in circle_ways(pieces, grain, word, state)):
            return False
    for level, at in gaps:
        states = {state for state in level_of if level_of[state] == level}
        if any(read_from(pieces, grain, word, state, pieces[at], states) for state in states):
            return False
    return True


def line_way(pieces, grain, word, state, letter):
    gram, tail, matched, found = state
    matched = matched_by(word, word[:matched] + letter)
    if letter not in letters_behind(pieces, grain, gram) or matched == len(word):
        return None
    tail = longest_end(tail + letter, beginnings_of(pieces))
    ended = {at for at, piece in enumerate(pieces) if tail.endswith(piece)}
    return (gram + letter)[1:], tail, matched, tuple(sorted(set(found) | ended))


def line_paper(pieces, grain, word, paper):
    """Whether the line paper is accepted."""
    if list(paper) != sorted(set(paper)):
        return False
    for gram in grams(pieces, grain):
        first = line_state(pieces, grain, word, gram)
        if first and first not in paper:
            return False
    for state in paper:
        ways = [line_way(pieces, grain, word, state, letter) for letter in letters_behind(pieces, grain, state[0])]
        if any(other and other not in paper for other in ways) or state[3] == tuple(range(len(pieces))):
            return False
    return True


def free_pieces(pieces):
    free = []
    for at, piece in enumerate(pieces):
        longer = [other for other in pieces if len(other) > len(piece) and positions(other, piece)]
        if not longer and piece not in pieces[:at]:
            free.append(piece)
    return tuple(free)


def overlap_graph(pieces, least):
    nodes = free_pieces(pieces)
    edges = [(i, k, length) for i, one in enumerate(nodes) for k, other in enumerate(nodes)
             for length in range(1, 60) if least <= length < len(one) and length < len(other)
             and one[len(one) - length:] == other[:length]]
    return nodes, tuple(sorted(edges))


def reduced(graph):
    nodes, edges = graph

    def carried(edge):
        return any(first[0] == edge[0] and second[1] == edge[1] and first[1] == second[0]
                   and first[2] + second[2] - len(nodes[first[1]]) == edge[2] for first in edges for second in edges)

    return nodes, tuple(edge for edge in edges if not carried(edge))


def traced(graph, circle):
    nodes, edges = graph
    places = sorted((p, at) for at, node in enumerate(nodes) for p in circle_positions(circle, node))
    if {at for _, at in places} != set(range(len(nodes))):
        return None
    later = places[1:] + [(places[0][0] + len(circle), places[0][1])]
    for (p, one), (q, other) in zip(places, later):
        if (one, other, len(nodes[one]) - (q - p)) not in edges:
            return None
    return tuple(places)


def closed_walks(graph, most):
    """All walks of at most most edges that lead round."""
    walks = [(edge,) for edge in graph[1]]
    found = []
    for _ in range(most):
        found += [walk for walk in walks if walk[-1][1] == walk[0][0]]
        walks = [walk + (edge,) for walk in walks for edge in graph[1] if walk[-1][1] == edge[0]]
    return found


def holds(distances, positions_of):
    return all(low <= positions_of[j] - positions_of[i] <= high for i, j, low, high in distances)


def is_ring(distances, limits):
    """Whether the limits lead round and add up to less than 0."""
    known = {}
    for at, (i, j, low, high) in enumerate(distances):
        known[at, "high", high] = (i, j)
        known[at, "low", -low] = (j, i)
    if not limits or not all(limit in known for limit in limits):
        return False
    leads = all(known[limits[at]][1] == known[limits[(at + 1) % len(limits)]][0] for at in range(len(limits)))
    return leads and sum(limit[2] for limit in limits) < 0


def wrong_letters(placed_pieces, text):
    return sum(text[start + at] != letter for start, piece in placed_pieces for at, letter in enumerate(piece))


def possible_texts(size, placed_pieces, alphabet, budget):
    return [text for text in texts_over(alphabet, size, size) if wrong_letters(placed_pieces, text) <= budget]


def spectrum(circle, grain):
    seen = [round_from(circle, p, grain) for p in range(len(circle))]
    return tuple(sorted((window, seen.count(window)) for window in set(seen)))


def texts_with_spectrum(counted):
    """All texts of the spectrum's size that have it as circles."""
    size = sum(count for _, count in counted)
    letters = sorted({letter for window, _ in counted for letter in window})
    return [text for text in texts_over(letters, size, size) if spectrum(text, len(counted[0][0])) == counted]


def ends(text, word):
    return tuple(p + len(word) for p in range(len(text) + 1) if text[p:].startswith(word))


def automaton(text):
    """One state for each class of words of the text that have the same ends."""
    classes = {}
    for word in words_in(text):
        classes.setdefault(ends(text, word), set()).add(word)
    longest = sorted((max(words, key=len) for words in classes.values()), key=lambda word: (len(word), word))

    def number(word):
        return [at for at, other in enumerate(longest) if ends(text, other) == ends(text, word)][0]

    states = []
    for word in longest:
        unlike = [word[p:] for p in range(1, len(word) + 1) if ends(text, word[p:]) != ends(text, word)]
        ways = [(letter, number(word + letter)) for letter in sorted(set(text)) if ends(text, word + letter)]
        states.append((word, number(unlike[0]) if unlike else -1, tuple(ways)))
    return tuple(states), [sorted(classes[ends(text, word)], key=len) for word in longest]


def least_cost(one, other):
    """A plain table of the least costs to turn each beginning of the one into each beginning of the other."""
    table = {}
    for i in range(len(one) + 1):
        for j in range(len(other) + 1):
            costs = [i + j] if i == 0 or j == 0 else [table[i - 1, j] + 1, table[i, j - 1] + 1]
            if i and j and one[i - 1] == other[j - 1]:
                costs.append(table[i - 1, j - 1])
            table[i, j] = min(costs)
    return table[len(one), len(other)]


def edited(text, edits):
    """The text that the edits make, letter by letter, and their cost; None if they do not fit."""
    made, rest, cost = "", list(text), 0
    for kind, worth in edits:
        if kind == "add":
            made += worth
            cost += len(worth)
            continue
        for _ in range(worth):
            if not rest:
                return None
            letter = rest.pop(0)
            made += letter if kind == "keep" else ""
            cost += kind == "drop"
    return None if rest else (made, cost)


def differing(one, other):
    return sum(a != b for a, b in zip(one, other, strict=True))


def keeps(text, pair):
    one, other, low, high = pair
    return any(low <= q - p <= high for p in positions(text, one) for q in positions(text, other))


def shortest_with_pairs(pieces, grain, pairs, barred):
    """Letter by letter, by all that can matter: the last letters, and what occurred so far. None if there is none."""
    size = max([len(word) for word in pieces + barred] + [grain] + [len(one) + len(other) + high
                                                                    for one, other, _, high in pairs])
    letters = sorted({letter for piece in pieces for letter in piece})
    row, seen = [("", "", frozenset())], set()
    while row:
        longer = []
        for text, last, had in row:
            for letter in letters:
                read = last + letter
                if len(text) + 1 >= grain and read[-grain:] not in windows(pieces, grain):
                    continue
                if any(word in read for word in barred):
                    continue
                now = had | {piece for piece in pieces if piece in read} | {pair for pair in pairs if keeps(read, pair)}
                if len(now) == len(set(pieces)) + len(set(pairs)):
                    return text + letter
                if (read[-size:], now) not in seen:
                    seen.add((read[-size:], now))
                    longer.append((text + letter, read[-size:], now))
        row = longer
    return None


def unfolded(factors):
    """The text of the factors, letter by letter."""
    text = ""
    for factor in factors:
        for _ in range(factor[2] if factor[0] == "copy" else 1):
            text += factor[1] if factor[0] == "letter" else text[len(text) - factor[1]]
    return text


def copies(text, at):
    """All copies (count, back) that repeat what the text has at the position."""
    return [(count, back) for back in range(1, at + 1) for count in range(1, len(text) - at + 1)
            if all(text[at + k] == text[at + k - back] for k in range(count))]


def folded(text):
    factors, at = [], 0
    while at < len(text):
        if text[at] not in text[:at]:
            factors.append(("letter", text[at]))
            at += 1
        else:
            count, back = max(copies(text, at), key=lambda pair: (pair[0], -pair[1]))
            factors.append(("copy", back, count))
            at += count
    return tuple(factors)


def fewest_factors(text):
    """The least number of factors over all ways to put them."""
    few = {len(text): 0}
    for at in range(len(text) - 1, -1, -1):
        few[at] = 1 + min(few[at + count] for count in {1} | {count for count, _ in copies(text, at)})
    return few[0]


def occurs_once(text, word):
    return len([p for p in range(len(text) + 1) if text[p:].startswith(word)]) == 1


def markers(text):
    found = []
    for p in range(len(text)):
        for q in range(p + 1, len(text) + 1):
            word = text[p:q]
            if occurs_once(text, word) and not occurs_once(text, word[1:]) and not occurs_once(text, word[:-1]):
                found.append((p, word))
    return tuple(found)


def shared_words(circles, count):
    sets = [{round_from(circle, p, count) for p in range(len(circle))} for circle in circles]
    return tuple(sorted(set.intersection(*sets)))
