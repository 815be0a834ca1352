"""Words that are certain: one that is made longer, and all of one length."""

from textshards.certain import check_many, check_most, lacking_text, some_text
from textshards.checks import check_shape, check_word
from textshards.circles import unrolled
from textshards.errors import LackingError
from textshards.grains import check_shards, letters_of


class Judge:
    """Tells of many words whether they are certain, and keeps the texts that it found on the way."""

    def __init__(self, pieces, grain, shape):
        self.pieces = pieces
        self.grain = grain
        self.shape = shape
        text = some_text(pieces, grain, shape)
        self.witnesses = [] if text is None else [text]

    def spread(self, text, count):
        """A text in which just the words with count letters occur that occur in this one, read in the shape."""
        if self.shape == "circle":
            return unrolled(text, len(text) + count - 1)
        return text

    def certain(self, word):
        """Whether the word, which is of any length, is certain."""
        if not all([word in self.spread(text, len(word)) for text in self.witnesses]):
            return False
        # Each text that explains the shards has all pieces, and what occurs in them.
        if len(self.witnesses) == 0 or any([word in piece for piece in self.pieces]):
            return True
        text = lacking_text(self.pieces, self.grain, word, self.shape)
        if text is not None:
            self.witnesses.append(text)
        return text is None


def letter_more(judge, before, after, letters):
    """The least letter that stands between the two in a certain word, or None; one of the two is empty."""
    for letter in letters:
        if judge.certain(before + letter + after):
            return letter
    return None


def grown_behind(judge, word, letters, most):
    """The word with letters put behind it, as long as there are such."""
    while len(word) < most:
        letter = letter_more(judge, word, "", letters)
        if letter is None:
            return word
        word = word + letter
    return word


def grown_in_front(judge, word, letters, most):
    """The word with letters put in front of it, as long as there are such."""
    while len(word) < most:
        letter = letter_more(judge, "", word, letters)
        if letter is None:
            return word
        word = letter + word
    return word


def grown(pieces, grain, word, shape, most):
    """The certain word, made longer behind and then in front, up to most letters."""
    check_shards(pieces, grain)
    check_shape(shape)
    check_word(word)
    check_most(most)
    check_many(pieces, shape)
    judge = Judge(pieces, grain, shape)
    if not judge.certain(word):
        raise LackingError(f"a text that explains the shards lacks {word}")
    letters = letters_of(pieces)
    return grown_in_front(judge, grown_behind(judge, word, letters, most), letters, most)


def certain_at(judge, text, low, high, count):
    """The words with count letters that begin from low to high - 1 in the text and are certain."""
    # The longer word has all of these, so one question may do for many.
    if judge.certain(text[low:high - 1 + count]):
        return [text[at:at + count] for at in range(low, high)]
    if high - low == 1:
        return []
    middle = (low + high) // 2
    return certain_at(judge, text, low, middle, count) + certain_at(judge, text, middle, high, count)


def certain_words(pieces, grain, count, shape):
    """All words with count letters that are certain and occur in some text that explains the shards."""
    check_shards(pieces, grain)
    check_shape(shape)
    check_most(count)
    check_many(pieces, shape)
    judge = Judge(pieces, grain, shape)
    if len(judge.witnesses) == 0:
        return ()
    # A certain word occurs in every text that explains the shards, so in the first one, too.
    text = judge.spread(judge.witnesses[0], count)
    if len(text) < count:
        return ()
    return tuple(sorted(set(certain_at(judge, text, 0, len(text) - count + 1, count))))
