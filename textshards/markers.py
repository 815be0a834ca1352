"""Words that tell a place of a text, and words that several circles share."""

from textshards.circles import check_circle, unrolled
from textshards.errors import EmptyText, RangeError
from textshards.suffixes import common_prefixes, suffix_array


def ends_of_unique(text):
    """For each position where the shortest word that occurs there only ends; behind the text if there is none."""
    order = suffix_array(text)
    common = common_prefixes(text) + (0,)
    ends = [0] * len(text)
    for rank, start in enumerate(order):
        # A word occurs at this position only if neither neighbour among the suffixes begins with it.
        ends[start] = start + max(common[rank], common[rank + 1]) + 1
    return ends


def markers(text):
    """The pairs (position, word) of all markers of the text, ascending."""
    ends = ends_of_unique(text) + [len(text) + 1]
    pairs = []
    for start in range(len(text)):
        # If the next position has such a word with the same end, this one is the same without its first letter.
        if ends[start] <= len(text) and ends[start] < ends[start + 1]:
            pairs.append((start, text[start:ends[start]]))
    return tuple(pairs)


def marked(text, position):
    """The shortest marker that covers the position, of several the first one, or None."""
    if not 0 <= position < len(text):
        raise RangeError(f"no position {position} in {len(text)} letters")
    covering = [(len(word), start, word) for start, word in markers(text) if start <= position < start + len(word)]
    return min(covering)[2] if len(covering) > 0 else None


def check_shared(circles, count):
    """Raise an error for circles, or a number of letters, of which no shared words are looked for."""
    if len(circles) == 0:
        raise EmptyText("there are no circles")
    for circle in circles:
        check_circle(circle)
    if count < 1:
        raise RangeError(f"shared words have at least 1 letter, not {count}")


def words_round(circle, count):
    """All words with so many letters that occur in the circle, as the keys of a dict."""
    row = unrolled(circle, len(circle) + count - 1)
    return {row[at:at + count]: True for at in range(len(circle))}


def shared_words(circles, count):
    """All words with so many letters that occur in each of the circles, ascending."""
    check_shared(circles, count)
    words = words_round(circles[0], count)
    for circle in circles[1:]:
        others = words_round(circle, count)
        words = {word: True for word in words if word in others}
    return tuple(sorted(list(words)))


def longest_shared(circles, most):
    """The longest word with at most so many letters that occurs in each of the circles, of several the least one."""
    check_shared(circles, most)
    least, many = "", most + 1
    # The beginnings of a shared word are shared: up to some length there are shared words, then no more.
    while many - len(least) > 1:
        middle = min((len(least) + many) // 2, 2 * len(least) + 1)
        words = shared_words(circles, middle)
        if len(words) > 0:
            least = words[0]
        else:
            many = middle
    return least
