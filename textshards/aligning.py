"""Edit lists: what is kept, dropped and added to turn one text into another."""

from textshards.errors import EmptyText, RangeError, TooLarge

ALIGN_LIMIT = 200


def check_edits(text, edits):
    """Raise an error for edits that do not fit the text, or that add an empty word."""
    counts = [count for kind, count in edits if kind != "add"]
    if not all([count >= 1 for count in counts]) or sum(counts) != len(text):
        raise RangeError(f"the edits do not keep and drop exactly {len(text)} letters")
    if ("add", "") in edits:
        raise EmptyText("a word that is added has at least one letter")


def apply_edits(text, edits):
    """The text that the edits make of this one."""
    check_edits(text, edits)
    parts = []
    at = 0
    for kind, worth in edits:
        if kind == "add":
            parts.append(worth)
            continue
        if kind == "keep":
            parts.append(text[at:at + worth])
        at += worth
    return "".join(parts)


def check_sizes(one, other):
    """Raise TooLarge for a text that is not aligned."""
    for text in (one, other):
        if len(text) > ALIGN_LIMIT:
            raise TooLarge(f"a text that is aligned has at most {ALIGN_LIMIT} letters, not {len(text)}")


def most_kept(one, other):
    """For each end of the one and each end of the other, how many letters can be kept; longest ends first."""
    rows = [[0] * (len(other) + 1)]
    for letter in reversed(one):
        row = [0]
        for at in range(len(other) - 1, -1, -1):
            below = rows[-1]
            row.append(below[at + 1] + 1 if letter == other[at] else max(below[at], row[-1]))
        rows.append(row[::-1])
    return rows[::-1]


def distance(one, other):
    """The least cost of an edit list that turns the one text into the other."""
    check_sizes(one, other)
    return len(one) + len(other) - 2 * most_kept(one, other)[0][0]


def single_edits(one, other):
    """The edits of a list of the least cost, letter by letter."""
    kept = most_kept(one, other)
    edits = []
    i, j = 0, 0
    while i < len(one) or j < len(other):
        if i < len(one) and j < len(other) and one[i] == other[j]:
            edits.append(("keep", 1))
            i, j = i + 1, j + 1
        elif j == len(other) or i < len(one) and kept[i + 1][j] == kept[i][j]:
            edits.append(("drop", 1))
            i += 1
        else:
            edits.append(("add", other[j]))
            j += 1
    return edits


def align(one, other):
    """An edit list of the least cost that turns the one text into the other."""
    check_sizes(one, other)
    items = []
    for kind, worth in single_edits(one, other):
        if len(items) > 0 and items[-1][0] == kind:
            items[-1] = (kind, items[-1][1] + worth)
        else:
            items.append((kind, worth))
    return tuple(items)
