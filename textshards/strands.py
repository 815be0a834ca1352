"""Strands: windows that can only follow each other."""

from textshards.grains import windows_of


def counted(grams):
    """For each gram how often it is in the list."""
    counts = {}
    for gram in grams:
        counts[gram] = counts.get(gram, 0) + 1
    return counts


def by_plain_gram(windows):
    """For each plain gram the only window that begins with it."""
    begun = counted([window[:-1] for window in windows])
    ended = counted([window[1:] for window in windows])
    plain = [gram for gram in begun if begun[gram] == 1 and ended.get(gram, 0) == 1]
    first = {window[:-1]: window for window in windows}
    return {gram: first[gram] for gram in plain}


def followed(window, following):
    """The windows in a row from this one on, once round if they come back to it."""
    row = [window]
    end = window[1:]
    while end in following and following[end] != window:
        row.append(following[end])
        end = row[-1][1:]
    return row


def strands(pieces, grain):
    """The texts of all strands in alphabetical order."""
    windows = windows_of(pieces, grain)
    following = by_plain_gram(windows)
    fronts = [window for window in windows if window[:-1] not in following]
    seen = {}
    texts = []
    # Windows that no front leads to lie on rings; of these the first one begins with the least gram.
    for window in fronts + list(windows):
        if window not in seen:
            row = followed(window, following)
            for other in row:
                seen[other] = True
            texts.append(window + "".join([other[-1] for other in row[1:]]))
    return tuple(sorted(texts))
