"""The plain words of the document, tried by brute force: slow, and written without the program."""

from itertools import product


def texts_over(alphabet, most, least=0):
    """All texts over the alphabet with least to most letters."""
    return ["".join(letters) for size in range(least, most + 1) for letters in product(alphabet, repeat=size)]


def words_in(text):
    """All words that occur in the text, the empty one included."""
    return {text[low:high] for low in range(len(text) + 1) for high in range(low, len(text) + 1)}


def positions(text, word):
    return tuple(p for p in range(len(text)) if text[p:p + len(word)] == word)


def round_from(circle, p, count):
    """The count letters of the circle from the position p on."""
    return "".join(circle[(p + k) % len(circle)] for k in range(count))


def circle_positions(circle, word):
    return tuple(p for p in range(len(circle)) if round_from(circle, p, len(word)) == word)


def turns(circle):
    return [round_from(circle, p, len(circle)) for p in range(len(circle))]


def longest_end(read, beginnings):
    """The longest end of what was read that is one of the beginnings."""
    return max((read[p:] for p in range(len(read) + 1) if read[p:] in beginnings), key=len)


def beginnings_of(words):
    return {word[:size] for word in words for size in range(len(word) + 1)}


def matched_by(word, read):
    return len(longest_end(read, beginnings_of([word])))


def suffixes(text):
    return sorted(range(len(text)), key=lambda p: text[p:])


def common_beginning(one, other):
    return max(size for size in range(min(len(one), len(other)) + 1) if one[:size] == other[:size])


def longest_of(words):
    """Of the words the longest one, of several the least one."""
    return min(words, key=lambda word: (-len(word), word))


def rows(text):
    return sorted(text[p:] for p in range(len(text) + 1))


def transformed(text):
    column = ""
    for row in rows(text):
        if row != text:
            column += text[len(text) - len(row) - 1]
    return column, rows(text).index(text)


def stretches(column):
    found = []
    for letter in column:
        if found and found[-1][0] == letter:
            found[-1] = (letter, found[-1][1] + 1)
        else:
            found.append((letter, 1))
    return tuple(found)


def windows(texts, grain):
    return tuple(sorted({word for text in texts for word in words_in(text) if len(word) == grain}))


def grams(pieces, grain):
    known = windows(pieces, grain)
    return tuple(sorted({window[:grain - 1] for window in known} | {window[1:] for window in known}))


def letters_behind(pieces, grain, gram):
    letters = sorted({letter for piece in pieces for letter in piece})
    return "".join(letter for letter in letters if gram + letter in windows(pieces, grain))


def explains(pieces, grain, text, shape):
    if shape == "circle":
        if text == "":
            return False
        seen = {round_from(text, p, grain) for p in range(len(text))}
        occurring = all(circle_positions(text, piece) for piece in pieces)
    else:
        seen = set(windows([text], grain))
        occurring = all(piece in words_in(text) for piece in pieces)
    return occurring and seen <= set(windows(pieces, grain))


def strands(pieces, grain):
    """Each window goes to the front of its strand, or to the least window of its ring, and reads on from there."""
    known = windows(pieces, grain)

    def joined(one, other):
        gram = one[1:]
        begun = [window for window in known if window[:-1] == gram]
        ended = [window for window in known if window[1:] == gram]
        return begun == [other] and ended == [one]

    found = {}
    for window in known:
        row = [window]
        while True:
            before = [other for other in known if joined(other, row[0])]
            if not before or before[0] in row:
                break
            row.insert(0, before[0])
        ring = bool(before)
        while not ring:
            behind = [other for other in known if joined(row[-1], other)]
            if not behind:
                break
            row.append(behind[0])
        if ring:
            first = row.index(min(row))
            row = row[first:] + row[:first]
        found[tuple(row)] = row[0][:-1] + "".join(other[-1] for other in row)
    return tuple(sorted(found.values()))


def line_state(pieces, grain, word, read):
    """The state of a line after all that was read, or None if the word occurs in it."""
    if positions(read, word):
        return None
    found = tuple(at for at, piece in enumerate(pieces) if positions(read, piece))
    gram = read[len(read) - grain + 1:]
    return gram, longest_end(read, beginnings_of(pieces)), matched_by(word, read), found
