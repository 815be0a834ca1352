"""The suffixes of a text in alphabetical order."""

# Ordering begins with beginnings of this length and doubles it: each doubling costs a sort.
FIRST_WIDTH = 8


def numbered(keys):
    """For each key the number of different keys that are less."""
    numbers = {key: number for number, key in enumerate(sorted(set(keys)))}
    return [numbers[key] for key in keys]


def suffix_ranks(text):
    """For each suffix of the text how many suffixes are less."""
    size = len(text)
    width = FIRST_WIDTH
    ranks = numbered([text[start:start + width] for start in range(size)])
    # The ranks order the suffixes by their first width letters until no two of these are equal.
    while width < size and max(ranks) < size - 1:
        behind = [rank + 1 for rank in ranks[width:]] + [0] * width
        ranks = numbered([rank * (size + 1) + later for rank, later in zip(ranks, behind)])
        width = width * 2
    return ranks


def starts_by_rank(ranks):
    """The numbers of the suffixes in the order of their ranks."""
    starts = [0] * len(ranks)
    for start, rank in enumerate(ranks):
        starts[rank] = start
    return tuple(starts)


def suffix_array(text):
    """The numbers of all suffixes of the text in alphabetical order of the suffixes."""
    return starts_by_rank(suffix_ranks(text))


def common_length(text, one, other, length):
    """The length of the common beginning of two suffixes, of which length letters are known to be equal."""
    most = len(text) - max(one, other)
    while length < most and text[one + length] == text[other + length]:
        length += 1
    return length


def common_prefixes(text):
    """For each element of the suffix array how many letters its suffix begins with like the one before."""
    ranks = suffix_ranks(text)
    order = starts_by_rank(ranks)
    lengths = [0] * len(text)
    length = 0
    for start, rank in enumerate(ranks):
        if rank == 0:
            length = 0
            continue
        # The suffix one letter longer shared length letters, so this one shares all but the first.
        length = common_length(text, start, order[rank - 1], max(length - 1, 0))
        lengths[rank] = length
    return tuple(lengths)


def suffix_range(text, word):
    """The part of the suffix array in which the suffixes begin with the word."""
    beginnings = [text[start:start + len(word)] for start in range(len(text))]
    low = len([beginning for beginning in beginnings if beginning < word])
    return low, low + beginnings.count(word)
