"""The transform of a text: the letters before its suffixes, in the order of the suffixes."""

from textshards.errors import EmptyText, TransformError
from textshards.suffixes import suffix_array


def transform(text):
    """The pair (column, place) of the text."""
    rows = (len(text),) + suffix_array(text)
    column = "".join([text[start - 1] for start in rows if start > 0])
    return column, rows.index(0)


def rows_before(column, place):
    """For each row the number of the row that is one letter longer at its front; 0 for the whole text."""
    size = len(column)
    letters = [row for row in range(size + 1) if row != place]
    # Rows with the same letter before them keep their order when this letter is put in front.
    ordered = sorted(list(range(size)), key=lambda at: column[at])
    longer = [0] * (size + 1)
    for rank, at in enumerate(ordered):
        longer[letters[at]] = rank + 1
    return longer


def restore(column, place):
    """The text of which the pair is the transform."""
    if place < 0 or place > len(column):
        raise TransformError(f"there is no row {place}")
    longer = rows_before(column, place)
    letters = []
    row = 0
    while row != place:
        letters.append(column[row if row < place else row - 1])
        row = longer[row]
    # The rows fall into several rings if the whole text is reached too early.
    if len(letters) < len(column):
        raise TransformError("the column belongs to no text")
    letters.reverse()
    return "".join(letters)


def runs_of(column):
    """The longest stretches of equal letters as pairs (letter, count), in order."""
    size = len(column)
    starts = [at for at in range(size) if at == 0 or column[at - 1] != column[at]]
    ends = starts[1:] + [size]
    return tuple([(column[start], end - start) for start, end in zip(starts, ends)])


def count_above(column, place, letter, row):
    """How many of the rows before this one have the letter before them."""
    return column.count(letter, 0, row if row <= place else row - 1)


def first_rows(column):
    """For each letter of the column the number of the first row that begins with it."""
    firsts = {}
    for at, letter in enumerate(sorted(column)):
        if letter not in firsts:
            firsts[letter] = at + 1
    return firsts


def backward(column, place, word):
    """The pair (low, high) of the rows that begin with the word, (0, 0) if there are none."""
    if word == "":
        raise EmptyText("rows are not asked for by the empty word")
    firsts = first_rows(column)
    low, high = 0, len(column) + 1
    for letter in reversed(word):
        if letter not in firsts:
            return 0, 0
        low = firsts[letter] + count_above(column, place, letter, low)
        high = firsts[letter] + count_above(column, place, letter, high)
        if low == high:
            return 0, 0
    return low, high
