"""Lines as walks in a graph: what matters of the letters that were read, and the letters that go on."""

from textshards.grains import letters_by_gram, letters_of
from textshards.lines import tail_moves


class LineGraph:
    """The lines of shards, and where some words end on them; barred words are not read at all.

    A node stands for a gram and a tail: the longest end of what was read that is a beginning of a word.
    The words that end at a node are the bits of a number. All words have at least one letter.
    """

    def __init__(self, pieces, grain, words, barred):
        known = letters_of(pieces)
        readable = [word for word in words + barred if all([letter in known for letter in word])]
        self.words = words
        self.barred = barred
        self.following = letters_by_gram(pieces, grain)
        self.moves = tail_moves(readable, known)
        self.nodes = []
        self.numbers = {}
        self.ended = []
        grams = [gram for gram in self.following if not any([word in gram for word in barred])]
        self.firsts = [(gram, self.number(gram, self.tails_in(gram)[-1])) for gram in grams]
        self.steps = []
        while len(self.steps) < len(self.nodes):
            gram, tail = self.nodes[len(self.steps)]
            self.steps.append(self.ways_behind(gram, tail))

    def tails_in(self, text):
        """The tails at the start of a line that begins with the text, and behind each letter of it."""
        tails = [""]
        for letter in text:
            tails.append(self.moves[tails[-1]][letter])
        return tails

    def words_at(self, tail):
        """The words that end where the tail ends, as the bits of a number."""
        return sum([1 << at for at, word in enumerate(self.words) if tail.endswith(word)])

    def number(self, gram, tail):
        """The node of the gram and the tail, which is a new one if it was not met before."""
        if (gram, tail) not in self.numbers:
            self.numbers[gram, tail] = len(self.nodes)
            self.nodes.append((gram, tail))
            self.ended.append(self.words_at(tail))
        return self.numbers[gram, tail]

    def ways_behind(self, gram, tail):
        """The pairs (letter, node) of all letters that may follow, ascending."""
        pairs = []
        for letter in self.following[gram]:
            longer = self.moves[tail][letter]
            if not any([longer.endswith(word) for word in self.barred]):
                pairs.append((letter, self.number((gram + letter)[1:], longer)))
        return pairs

    def least_steps(self):
        """For each node the ways to all nodes, each by the least letter that leads there, ascending by letter."""
        rows = []
        for ways in self.steps:
            least = {}
            for letter, other in ways:
                least.setdefault(other, letter)
            rows.append([(letter, other) for other, letter in least.items()])
        return rows
