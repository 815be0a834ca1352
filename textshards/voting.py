"""Votes over pieces with errors: wrong letters and what a budget for them allows."""

from textshards.checks import check_alphabet
from textshards.errors import BudgetError, EmptyText, RangeError

SIZE_LIMIT = 400


def check_within(size, placed_pieces):
    """Raise an error for the first piece that is empty or does not lie within so many letters."""
    for start, piece in placed_pieces:
        if piece == "":
            raise EmptyText("a placed piece has at least one letter")
        if start < 0 or start + len(piece) > size:
            raise RangeError(f"{piece} at {start} does not lie within {size} letters")


def check_placed(size, placed_pieces, alphabet):
    """Raise an error for a size, an alphabet or placed pieces that are not well formed."""
    if not 1 <= size <= SIZE_LIMIT:
        raise RangeError(f"a text has from 1 to {SIZE_LIMIT} letters, not {size}")
    check_alphabet(alphabet)
    check_within(size, placed_pieces)


def check_budget(budget):
    """Raise BudgetError for a negative budget."""
    if budget < 0:
        raise BudgetError(f"a budget is at least 0, not {budget}")


def votes_of(size, placed_pieces):
    """For each position, how often each letter stands there in a piece."""
    votes = [{} for _ in range(size)]
    for start, piece in placed_pieces:
        for at, letter in enumerate(piece):
            votes[start + at][letter] = votes[start + at].get(letter, 0) + 1
    return votes


def wrong_letters(size, placed_pieces, alphabet):
    """For each position, how many letters are wrong there by each letter of the alphabet."""
    rows = []
    for vote in votes_of(size, placed_pieces):
        total = sum(vote.values())
        rows.append({letter: total - vote.get(letter, 0) for letter in alphabet})
    return rows


def fewest(wrong):
    """For each position the least number of wrong letters."""
    return [min(row.values()) for row in wrong]


def least_wrong(size, placed_pieces, alphabet):
    """The least number of wrong letters of a text."""
    check_placed(size, placed_pieces, alphabet)
    return sum(fewest(wrong_letters(size, placed_pieces, alphabet)))


def possible_letters(size, placed_pieces, alphabet, budget):
    """For each position the text of all letters, ascending, that a text within the budget has there."""
    check_placed(size, placed_pieces, alphabet)
    check_budget(budget)
    wrong = wrong_letters(size, placed_pieces, alphabet)
    least = fewest(wrong)
    spare = budget - sum(least)
    if spare < 0:
        raise BudgetError(f"each text has more than {budget} wrong letters")
    # All other positions can have their least number, so one position can use all that is to spare.
    return tuple(["".join([letter for letter in alphabet if row[letter] - few <= spare])
                  for row, few in zip(wrong, least)])
