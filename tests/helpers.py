"""What the tests share: exact comparison and exact error classes."""

import random
import unittest

from textshards import errors


def kinds(value):
    """The value together with the kinds of all its parts, as True equals 1."""
    if isinstance(value, tuple):
        return tuple, [kinds(part) for part in value]
    return type(value), value


class ShardCase(unittest.TestCase):
    def same(self, value, expected, told=None):
        self.assertEqual(kinds(value), kinds(expected), told)

    def fails(self, error, action, *told):
        """The action raises just this error, no other one of the family."""
        with self.assertRaises(errors.ShardError) as caught:
            action(*told)
        self.assertIs(type(caught.exception), error, told)


def chance(seed):
    """A random source that is the same in each run."""
    return random.Random(seed)


def drawn(source, letters, size):
    return "".join(source.choice(letters) for _ in range(size))


def cut(source, text, grain, count):
    """Pieces of at least grain letters, cut from a text."""
    pieces = []
    for _ in range(count):
        size = source.randint(grain, max(grain, min(len(text), grain + 3)))
        start = source.randint(0, len(text) - size)
        pieces.append(text[start:start + size])
    return tuple(pieces)


def some_shards(seed, count):
    """Pieces and grains: cut from texts that repeat or not, over small and large alphabets."""
    source = chance(seed)
    shards = []
    for number in range(count):
        grain = number % 3 + 1
        letters = source.choice(("a", "ab", "ab", "abc", "!AZaz~"))
        text = drawn(source, letters, source.randint(grain, 9))
        if source.random() < 0.3:
            text = text + text
        shards.append((cut(source, text, grain, source.randint(1, 4)), grain))
    return shards
