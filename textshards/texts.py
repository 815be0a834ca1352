"""Reading a text while looking for a word."""

from textshards.errors import EmptyText


def borders(word):
    """The length of the longest border of each beginning of the word."""
    lengths = []
    length = 0
    for at, letter in enumerate(word):
        while length > 0 and word[length] != letter:
            length = lengths[length - 1]
        # The first letter would be compared with itself, but a border is shorter than its text.
        if at > 0 and word[length] == letter:
            length += 1
        lengths.append(length)
    return tuple(lengths)


def occurrences(text, word):
    """All positions at which the word occurs in the text, ascending."""
    if word == "":
        raise EmptyText("occurrences of the empty word are not asked for")
    lengths = borders(word)
    positions = []
    matched = 0
    for at, letter in enumerate(text):
        while matched > 0 and word[matched] != letter:
            matched = lengths[matched - 1]
        if word[matched] == letter:
            matched += 1
        if matched == len(word):
            positions.append(at + 1 - matched)
            # Only the longest border of the word may go on: occurrences may overlap.
            matched = lengths[matched - 1]
    return tuple(positions)


def advance(word, matched, letter):
    """How much of the word is matched after the letter, if matched letters were before it."""
    read = word[:matched] + letter
    length = min(len(word), len(read))
    while not read.endswith(word[:length]):
        length -= 1
    return length


def advances(word, letters):
    """For each number of matched letters, what it becomes by each of the letters."""
    lengths = borders(word)
    rows = []
    for matched, letter in enumerate(word):
        # Where the word does not go on, the longest border of what is matched may.
        row = dict(rows[lengths[matched - 1]]) if matched > 0 else {other: 0 for other in letters}
        row[letter] = matched + 1
        rows.append(row)
    return rows
