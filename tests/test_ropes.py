from tests import plain
from tests.helpers import ShardCase, chance, drawn
from textshards.errors import EmptyText, RangeError
from textshards.ropes import Rope

LARGE = 10 ** 20


class RopeTest(ShardCase):
    def holds(self, rope, text, source):
        """All answers are those of the text, asked at some places."""
        size = len(text)
        self.same((rope.whole(), len(rope)), (text, size))
        for _ in range(6):
            start, end = sorted((source.randint(0, size), source.randint(0, size)))
            self.same(rope.part(start, end), text[start:end])
            self.same(rope.rank("a", end), text[:end].count("a"))
            self.same(rope.rank("~", end), 0)
            if start < size:
                self.same(rope.letter(start), text[start])
            word = text[start:start + source.randint(1, 3)] if start < size else "ab"
            later = [p for p in plain.positions(text, word) if p >= end]
            self.same(rope.position_of(word, end), later[0] if later else -1)

    def keeps(self, rope, error, action, *told):
        """The action raises the error, after which the text is as before."""
        text = rope.whole()
        self.fails(error, action, *told)
        self.same(rope.whole(), text)
        self.same(len(rope), len(text))

    def step(self, source, ropes, texts):
        """One random edit of one of the ropes and of the plain text beside it."""
        k = source.randrange(len(ropes))
        rope, text = ropes[k], texts[k]
        at = source.randint(0, len(text))
        choice = source.randint(0, 4)
        if choice <= 1:
            word = drawn(source, "ab", source.choice((0, 1, 2, 50, 300)))
            self.same(rope.insert(at, word), None)
            texts[k] = text[:at] + word + text[at:]
        elif choice == 2:
            count = min(len(text) - at, source.choice((0, 1, 30, 200)))
            self.same(rope.delete(at, count), None)
            texts[k] = text[:at] + text[at + count:]
        elif choice == 3:
            other = source.randrange(len(ropes))
            if len(text) + len(texts[other]) < 4000:
                self.same(rope.put_behind(ropes[other]), None)
                texts[k] = text + texts[other]
        elif choice == 4:
            rest = rope.cut_off(at)
            self.assertIs(type(rest), Rope)
            texts[k] = text[:at]
            ropes[(k + 1) % len(ropes)], texts[(k + 1) % len(ropes)] = rest, text[at:]

    def test_ropes_in_turn(self):
        source = chance(1901)
        for count in (2, 3, 4):
            texts = [drawn(source, "ab", source.choice((0, 5, 1000))) for _ in range(count)]
            ropes = [Rope(text) for text in texts]
            for _ in range(120):
                self.step(source, ropes, texts)
                for rope, text in zip(ropes, texts):
                    self.holds(rope, text, source)

    def test_all_answers_of_small_ropes(self):
        for text in plain.texts_over("ab", 5):
            rope = Rope(text)
            size = len(text)
            self.same((rope.whole(), len(rope)), (text, size))
            self.same([rope.letter(at) for at in range(size)], list(text))
            for end in range(size + 1):
                self.same([rope.rank(sign, end) for sign in "abz"], [text[:end].count(sign) for sign in "abz"])
                self.same([rope.part(start, end) for start in range(end + 1)],
                          [text[start:end] for start in range(end + 1)])
                for word in ("a", "ab", "aa", "bab", "z", "ababab"):
                    later = [p for p in plain.positions(text, word) if p >= end]
                    self.same(rope.position_of(word, end), later[0] if later else -1, (text, word, end))

    def test_words_across_blocks(self):
        text = "".join(f"<{number}>" for number in range(1500))
        rope = Rope(text)
        self.assertGreater(len(text), 5000)
        for at in range(0, len(text) - 300, 37):
            for size in (1, 9, 300):
                self.same(rope.part(at, at + size), text[at:at + size])
                self.same(rope.position_of(text[at:at + size], at), at)
        self.same(rope.position_of("<7>", text.find("<7>") + 1), -1)

    def test_thousands_of_small_edits(self):
        source = chance(1902)
        rope, text = Rope(""), ""
        for number in range(3000):
            at = source.randint(0, len(text))
            rope.insert(at, "ab"[number % 2])
            text = text[:at] + "ab"[number % 2] + text[at:]
        self.holds(rope, text, source)
        for _ in range(2900):
            at = source.randrange(len(text))
            rope.delete(at, 1)
            text = text[:at] + text[at + 1:]
        self.holds(rope, text, source)

    def test_behind_itself(self):
        rope = Rope("abc")
        rope.put_behind(rope)
        self.same((rope.whole(), len(rope)), ("abcabc", 6))
        rope.insert(3, "x")
        rope.put_behind(rope)
        self.same(rope.whole(), "abcxabcabcxabc")
        empty = Rope("")
        empty.put_behind(empty)
        self.same(empty.whole(), "")

    def test_cut_off_at_both_ends(self):
        for text in ("abc", "ab" * 500, ""):
            rope = Rope(text)
            self.same((rope.cut_off(len(text)).whole(), rope.whole()), ("", text))
            self.same((rope.cut_off(0).whole(), rope.whole()), (text, ""))
            rope.insert(0, "z")
            self.same(rope.whole(), "z")

    def test_ropes_share_nothing(self):
        one, other = Rope("ab" * 200), Rope("cd" * 200)
        one.put_behind(other)
        self.same(other.whole(), "cd" * 200)
        rest = one.cut_off(500)
        other.insert(3, "x")
        other.delete(0, 2)
        rest.delete(0, 250)
        one.insert(0, "y")
        self.same(one.whole(), "y" + "ab" * 200 + "cd" * 50)
        self.same(rest.whole(), "cd" * 25)
        self.same(other.whole(), ("cd" * 200)[2] + "x" + ("cd" * 200)[3:])

    def test_an_empty_rope(self):
        rope = Rope("")
        self.same((len(rope), rope.whole(), rope.part(0, 0), rope.rank("a", 0)), (0, "", "", 0))
        self.same((rope.position_of("a", 0), rope.cut_off(0).whole()), (-1, ""))
        rope.delete(0, 0)
        rope.insert(0, "")
        self.same(rope.whole(), "")
        self.keeps(rope, RangeError, rope.letter, 0)

    def test_wrong_positions(self):
        for text in ("", "abc", "ab" * 300):
            rope = Rope(text)
            size = len(text)
            for at in (-1, size + 1, LARGE, -LARGE):
                for word in ("", "x"):
                    self.keeps(rope, RangeError, rope.insert, at, word)
                self.keeps(rope, RangeError, rope.rank, "a", at)
                self.keeps(rope, RangeError, rope.position_of, "a", at)
                self.keeps(rope, RangeError, rope.cut_off, at)
                self.keeps(rope, RangeError, rope.letter, at)
                self.keeps(rope, RangeError, rope.delete, at, 0)
            self.keeps(rope, RangeError, rope.letter, size)
            for at, count in ((0, -1), (size, -1), (0, size + 1), (size, 1), (-1, 1), (size + 1, -1), (0, LARGE),
                              (-LARGE, LARGE)):
                self.keeps(rope, RangeError, rope.delete, at, count)
            for start, end in ((-1, 0), (0, size + 1), (1, 0), (size + 1, size + 1), (-2, -1), (size, size - 1),
                               (-LARGE, LARGE)):
                self.keeps(rope, RangeError, rope.part, start, end)

    def test_the_empty_word_comes_first(self):
        for rope in (Rope(""), Rope("abc")):
            for at in (0, -1, 4, LARGE):
                self.keeps(rope, EmptyText, rope.position_of, "", at)
