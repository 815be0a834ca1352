"""The text with the fewest wrong letters, and pieces corrected by a text."""

from textshards.errors import RangeError
from textshards.voting import check_budget, check_placed, check_within, possible_letters, wrong_letters


def least_worst(row):
    """The least letter by which the fewest letters are wrong."""
    few = min(row.values())
    return [letter for letter in row if row[letter] == few][0]


def voted(size, placed_pieces, alphabet):
    """The text with the least number of wrong letters, of several the least one."""
    check_placed(size, placed_pieces, alphabet)
    return "".join([least_worst(row) for row in wrong_letters(size, placed_pieces, alphabet)])


def corrected(placed_pieces, text):
    """The pieces, in order, as the text has them at their places."""
    check_within(len(text), placed_pieces)
    return tuple([text[start:start + len(piece)] for start, piece in placed_pieces])


def two_texts(size, placed_pieces, alphabet, budget, position):
    """Two texts within the budget with different letters at the position, or None if its letter is sure."""
    check_placed(size, placed_pieces, alphabet)
    check_budget(budget)
    if not 0 <= position < size:
        raise RangeError(f"no position {position} in {size} letters")
    letters = possible_letters(size, placed_pieces, alphabet, budget)[position]
    if len(letters) == 1:
        return None
    text = voted(size, placed_pieces, alphabet)
    return tuple([text[:position] + letter + text[position + 1:] for letter in letters[:2]])
