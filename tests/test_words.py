from tests import plain
from tests.helpers import ShardCase, chance, drawn
from textshards.errors import RangeError, TooLarge
from textshards.words import run_word, shortest_of, word_automaton

LARGE = "".join(chr(code) for code in range(38, 98))


class WordsTest(ShardCase):
    def holds(self, text, others):
        automaton = word_automaton(text)
        states, classes = plain.automaton(text)
        self.same(automaton, states, text)
        for state, words in enumerate(classes):
            self.same(shortest_of(automaton, state), words[0], (text, state))
            for word in words:
                self.same(run_word(automaton, word), state, (text, word))
        occurring = plain.words_in(text)
        for word in others:
            self.same(run_word(automaton, word) != -1, word in occurring, (text, word))
        for state in (-1, -2, len(automaton), 10 ** 20):
            self.fails(RangeError, shortest_of, automaton, state)

    def test_all_small_texts(self):
        for text in plain.texts_over("ab", 8):
            self.holds(text, plain.texts_over("ab", 4))
        for text in plain.texts_over("a!~", 5):
            self.holds(text, plain.texts_over("a!~", 3))

    def test_large_texts(self):
        source = chance(1301)
        for text in ("ab" * 30, "a" * 60, "aab" * 20, LARGE, drawn(source, "ab", 60), drawn(source, LARGE, 60)):
            words = [drawn(source, text[:3], source.randint(1, 5)) for _ in range(50)]
            self.holds(text, words + [text + "a", text[1:] + "~", "~"])

    def test_example_of_the_interface(self):
        self.same(word_automaton("ab"), (("", -1, (("a", 1), ("b", 2))), ("a", 0, (("b", 2),)), ("ab", 0, ())))

    def test_the_empty_text(self):
        automaton = word_automaton("")
        self.same(automaton, (("", -1, ()),))
        self.same((run_word(automaton, ""), run_word(automaton, "a")), (0, -1))
        self.same(shortest_of(automaton, 0), "")
        self.fails(RangeError, shortest_of, automaton, 1)

    def test_a_letter_that_does_not_occur(self):
        automaton = word_automaton("abab")
        self.same(run_word(automaton, "z"), -1)
        self.same(run_word(automaton, "abz"), -1)
        self.same(run_word(automaton, "zab"), -1)
        self.same(run_word(automaton, ""), 0)

    def test_too_large(self):
        for size in (61, 62, 500):
            self.fails(TooLarge, word_automaton, "a" * size)
            self.fails(TooLarge, word_automaton, ("ab" * size)[:size])
        self.same(len(word_automaton("a" * 60)), 61)
