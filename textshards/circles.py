"""Circles: texts that are read round and round."""

from textshards.errors import EmptyText
from textshards.texts import borders, occurrences


def check_circle(circle):
    """Raise EmptyText for an empty circle."""
    if circle == "":
        raise EmptyText("a circle has at least one letter")


def unrolled(circle, count):
    """The first count letters that are read round the circle."""
    return (circle * (count // len(circle) + 1))[:count]


def turned(circle, k):
    """The circle as a text that begins at the position k modulo its length."""
    check_circle(circle)
    start = k % len(circle)
    return circle[start:] + circle[:start]


def least_start(circle):
    """A position at which the least turn of the circle begins."""
    size = len(circle)
    one, other, same = 0, 1, 0
    while one < size and other < size and same < size:
        left = circle[(one + same) % size]
        right = circle[(other + same) % size]
        if left == right:
            same += 1
            continue
        # No turn that begins within the equal letters of the greater one can be the least.
        if left > right:
            one = one + same + 1
        else:
            other = other + same + 1
        if one == other:
            other += 1
        same = 0
    return min(one, other)


def least_turn(circle):
    """The least of all turns of the circle."""
    check_circle(circle)
    return turned(circle, least_start(circle))


def root_of(circle):
    """The shortest text of which the circle is a repetition."""
    check_circle(circle)
    period = len(circle) - borders(circle)[-1]
    if len(circle) % period == 0:
        return circle[:period]
    return circle


def same_circle(one, other):
    """Whether one text is the other, turned."""
    check_circle(one)
    check_circle(other)
    return len(one) == len(other) and other in one + one


def circle_starts(circle, word):
    """The positions at which the word occurs in the circle, ascending."""
    check_circle(circle)
    if word == "":
        return tuple(range(len(circle)))
    return occurrences(unrolled(circle, len(circle) + len(word) - 1), word)


def circle_has(circle, word):
    """Whether the word occurs in the circle."""
    check_circle(circle)
    return word in unrolled(circle, len(circle) + len(word) - 1)
