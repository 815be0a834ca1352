"""Words that a text has, has twice, shares with another text, or lacks."""

from textshards.checks import check_alphabet
from textshards.suffixes import common_prefixes, suffix_array

# Less than every letter and none itself, so no common word reaches across it.
SEPARATOR = " "


def count_words(text):
    """How many different words with at least one letter occur in the text."""
    # Of the beginnings of a suffix, those that the suffix before it has, too, are counted there.
    return len(text) * (len(text) + 1) // 2 - sum(common_prefixes(text))


def longest_repeat(text):
    """The longest word that occurs at two positions at least, of several the least one."""
    if text == "":
        return ""
    lengths = common_prefixes(text)
    longest = max(lengths)
    start = suffix_array(text)[lengths.index(longest)]
    return text[start:start + longest]


def common_part(one, other):
    """The longest word that occurs in both texts, of several the least one."""
    joined = one + SEPARATOR + other
    order = suffix_array(joined)
    lengths = common_prefixes(joined)
    longest, start = 0, 0
    for rank in range(1, len(order)):
        # A word of both texts has two neighbours among its suffixes that lie on either side.
        sides = order[rank - 1] < len(one), order[rank] < len(one)
        if sides[0] != sides[1] and lengths[rank] > longest:
            longest, start = lengths[rank], order[rank]
    return joined[start:start + longest]


def least_missing(text, alphabet):
    """The shortest word over the alphabet that does not occur in the text, of several the least one."""
    check_alphabet(alphabet)
    words = [""]
    # All words so far occur, so a missing one that is a letter longer extends one of them.
    while True:
        longer = [word + letter for word in words for letter in alphabet]
        for word in longer:
            if word not in text:
                return word
        words = longer
