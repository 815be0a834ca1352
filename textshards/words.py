"""The automaton of all words of a text."""

from textshards.errors import RangeError, TooLarge

LETTER_LIMIT = 60


def ends_of_words(text):
    """For each word that occurs in the text its ends, ascending."""
    ends = {}
    for end in range(len(text) + 1):
        for start in range(end + 1):
            ends.setdefault(text[start:end], []).append(end)
    return {word: tuple(ends[word]) for word in ends}


def longest_by_ends(ends):
    """For each class of alike words, told by their ends, the longest one."""
    longest = {}
    for word in ends:
        if len(word) >= len(longest.get(ends[word], "")):
            longest[ends[word]] = word
    return longest


def longest_unlike(ends, word):
    """The longest end of the word that is not alike to it; the word has at least one letter."""
    start = 1
    while ends[word[start:]] == ends[word]:
        start += 1
    return word[start:]


def state_of(word, ends, state_by_ends, letters):
    """The state of the class of which this word is the longest one."""
    link = -1 if word == "" else state_by_ends[ends[longest_unlike(ends, word)]]
    ways = [(letter, state_by_ends[ends[word + letter]]) for letter in letters if word + letter in ends]
    return word, link, tuple(ways)


def word_automaton(text):
    """The states of the automaton, each one a triple (longest, link, ways)."""
    if len(text) > LETTER_LIMIT:
        raise TooLarge(f"a text has at most {LETTER_LIMIT} letters, not {len(text)}")
    ends = ends_of_words(text)
    longest = sorted(list(longest_by_ends(ends).values()), key=lambda word: (len(word), word))
    state_by_ends = {ends[word]: number for number, word in enumerate(longest)}
    letters = sorted(set(text))
    return tuple([state_of(word, ends, state_by_ends, letters) for word in longest])


def run_word(automaton, word):
    """The state to which the word leads from state 0, or -1."""
    state = 0
    for letter in word:
        ways = [other for sign, other in automaton[state][2] if sign == letter]
        if len(ways) == 0:
            return -1
        state = ways[0]
    return state


def shortest_of(automaton, state):
    """The shortest word of the class of the state."""
    if not 0 <= state < len(automaton):
        raise RangeError(f"no state {state}")
    longest, link, _ = automaton[state]
    if link == -1:
        return longest
    # The words of a class are ends of the longest one, down to those that are in the class of the link.
    return longest[len(longest) - len(automaton[link][0]) - 1:]
