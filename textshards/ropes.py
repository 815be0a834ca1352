"""A text in blocks, so that edits in the middle move few letters."""

from textshards.errors import EmptyText, RangeError

# A block has fewer than two times as many letters.
BLOCK_SIZE = 64


def blocks_of(text):
    """The text in blocks of about the same length."""
    if text == "":
        return []
    many = max(len(text) // BLOCK_SIZE, 1)
    cuts = [len(text) * number // many for number in range(many + 1)]
    return [text[start:end] for start, end in zip(cuts, cuts[1:])]


class Rope:
    """A text that is edited, cut and put together."""

    def __init__(self, text):
        self._blocks = blocks_of(text)

    def __len__(self):
        return len(self.whole())

    def whole(self):
        """The text."""
        return "".join(self._blocks)

    def insert(self, at, word):
        """Put the word in front of the position."""
        self._check(0, at)
        number, offset = self._place(at)
        block = "".join(self._blocks[number:number + 1])
        self._replace(number, number + 1, block[:offset] + word + block[offset:])

    def delete(self, at, count):
        """Remove count letters from the position on."""
        self._check(at, at + count)
        first, offset = self._place(at)
        last, end = self._place(at + count)
        rest = "".join(self._blocks[last:last + 1])[end:]
        self._replace(first, last + 1, "".join(self._blocks[first:first + 1])[:offset] + rest)

    def letter(self, at):
        """The letter at the position."""
        return self.part(at, at + 1)

    def rank(self, sign, at):
        """How often the letter stands in the first at letters."""
        self._check(0, at)
        number, offset = self._place(at)
        before = sum([block.count(sign) for block in self._blocks[:number]])
        return before + "".join(self._blocks[number:number + 1])[:offset].count(sign)

    def part(self, start, end):
        """The letters from start to end - 1."""
        self._check(start, end)
        first, offset = self._place(start)
        last, _ = self._place(end)
        return "".join(self._blocks[first:last + 1])[offset:offset + end - start]

    def position_of(self, word, at):
        """The first position from this one on at which the word occurs, or -1."""
        if word == "":
            raise EmptyText("the empty word is not looked for")
        self._check(0, at)
        number, offset = self._place(at)
        found = "".join(self._blocks[number:]).find(word, offset)
        return -1 if found == -1 else found - offset + at

    def cut_off(self, at):
        """A rope with the letters from the position on; this rope keeps those before it."""
        size = len(self.whole())
        rest = Rope(self.part(at, size))
        self.delete(at, size - at)
        return rest

    def put_behind(self, rope):
        """Put the letters of another rope behind."""
        self.insert(len(self.whole()), rope.whole())

    def _check(self, start, end):
        """Raise RangeError if there are no letters from start to end - 1, not even none."""
        size = sum([len(block) for block in self._blocks])
        if not 0 <= start <= end <= size:
            raise RangeError(f"no letters from {start} to {end} of {size}")

    def _place(self, at):
        """The number of the block in which the position lies, and how far in it; the last one has the end, too."""
        number = 0
        while number + 1 < len(self._blocks) and at >= len(self._blocks[number]):
            at -= len(self._blocks[number])
            number += 1
        return number, at

    def _replace(self, first, last, text):
        """Put the text, in blocks, in the place of the blocks from first to last - 1."""
        self._blocks = self._blocks[:first] + blocks_of(text) + self._blocks[last:]
