from tests import plain
from tests.helpers import ShardCase, chance, drawn
from textshards.errors import EmptyText, RangeError, TooLarge, VersionError
from textshards.index import Index

TEXT_LIMIT = 2000
VERSION_LIMIT = 200
LARGE = 10 ** 30


def full_history():
    """An index with as many versions as there can be."""
    index = Index("ab")
    for _ in range(VERSION_LIMIT // 2):
        index.insert(1, "c")
        index.delete(1, 1)
    return index


class IndexTest(ShardCase):
    def holds(self, index, texts):
        """All answers are those of the versions, asked by the plain words of the document."""
        text = texts[-1]
        self.same((index.text, index.version, len(index)), (text, len(texts) - 1, len(text)))
        self.same(index.runs, len(plain.stretches(plain.transformed(text)[0])))
        for version, earlier in enumerate(texts):
            self.same(index.text_at(version), earlier)
        for word in ("a", "b", "ab", "aa", "bab", text[1:4] + "a"):
            expected = plain.positions(text, word)
            self.same(index.locate(word), expected, (text, word))
            self.same(index.count(word), len(expected), (text, word))
            self.assertIs(word in index, expected != ())
            for version, earlier in enumerate(texts):
                self.same(index.count_at(version, word), len(plain.positions(earlier, word)))

    def keeps(self, index, error, action, *told):
        """The action raises the error, after which text and versions are as before."""
        texts = [index.text_at(version) for version in range(index.version + 1)]
        self.fails(error, action, *told)
        self.same(index.version, len(texts) - 1)
        self.same(index.text, texts[-1])
        self.same(len(index), len(texts[-1]))
        self.same(tuple(index.text_at(version) for version in range(len(texts))), tuple(texts))

    def step(self, source, index, texts):
        """One random edit of the index and of the plain list beside it."""
        text = texts[-1]
        choice = source.randint(0, 3)
        if choice == 0:
            version = source.randint(0, len(texts) - 1)
            result = index.back(version)
            texts.append(texts[version])
        elif choice == 1:
            at = source.randint(0, len(text))
            count = source.randint(0, len(text) - at)
            result = index.delete(at, count)
            texts.append(text[:at] + text[at + count:])
        else:
            at = source.randint(0, len(text))
            word = drawn(source, "ab", source.randint(0, 4))
            result = index.insert(at, word)
            texts.append(text[:at] + word + text[at:])
        self.same(result, len(texts) - 1)

    def test_two_indexes_in_turn(self):
        source = chance(304)
        for first, second in (("", "abab"), ("banana", "banana"), ("aab" * 5, "")):
            pairs = [(Index(first), [first]), (Index(second), [second])]
            for index, texts in pairs:
                self.holds(index, texts)
            for _ in range(25):
                for index, texts in pairs:
                    self.step(source, index, texts)
                for index, texts in pairs:
                    self.holds(index, texts)

    def test_an_index_at_first(self):
        index = Index("banana")
        self.same((index.text, index.version, index.runs, len(index)), ("banana", 0, 4, 6))
        self.same(index.locate("ana"), (1, 3))
        self.same(index.count("ana"), 2)
        self.assertIs("nan" in index, True)
        self.assertIs("bn" in index, False)
        self.assertIs("bn" not in index, True)

    def test_empty_text(self):
        index = Index("")
        self.same((index.text, index.version, index.runs, len(index)), ("", 0, 0, 0))
        self.same((index.count("a"), index.locate("a"), index.count_at(0, "a")), (0, (), 0))
        self.assertIs("a" in index, False)
        self.same(index.insert(0, "ab"), 1)
        self.same(index.delete(0, 2), 2)
        self.same(index.delete(0, 0), 3)
        self.same(index.text, "")

    def test_edits_at_both_ends(self):
        index = Index("bc")
        self.same((index.insert(0, "a"), index.text), (1, "abc"))
        self.same((index.insert(3, "d"), index.text), (2, "abcd"))
        self.same((index.delete(0, 1), index.text), (3, "bcd"))
        self.same((index.delete(2, 1), index.text), (4, "bc"))
        self.same((index.insert(0, ""), index.text), (5, "bc"))
        self.same((index.insert(2, ""), index.text), (6, "bc"))
        self.same((index.delete(0, 0), index.text), (7, "bc"))
        self.same((index.delete(2, 0), index.text), (8, "bc"))
        self.same((index.delete(0, 2), index.text), (9, ""))

    def test_back(self):
        index = Index("ab")
        index.insert(2, "c")
        self.same((index.back(0), index.text), (2, "ab"))
        self.same((index.back(1), index.text), (3, "abc"))
        self.same((index.back(3), index.text), (4, "abc"))
        self.same(tuple(index.text_at(version) for version in range(5)), ("ab", "abc", "ab", "abc", "abc"))

    def test_wrong_positions(self):
        index = Index("abc")
        index.insert(3, "d")
        for at in (-1, 5, -LARGE, LARGE):
            for word in ("", "x"):
                self.keeps(index, RangeError, index.insert, at, word)
        for at, count in ((-1, 0), (-1, 1), (0, -1), (2, -1), (5, 0), (4, 1), (0, 5), (2, 3), (5, -1), (6, -2),
                          (LARGE, 0), (0, LARGE), (-LARGE, LARGE)):
            self.keeps(index, RangeError, index.delete, at, count)

    def test_wrong_versions(self):
        index = Index("abc")
        index.delete(0, 1)
        for version in (-1, -2, 2, 3, LARGE, -LARGE):
            self.keeps(index, VersionError, index.back, version)
            self.keeps(index, VersionError, index.text_at, version)
            self.keeps(index, VersionError, index.count_at, version, "a")

    def test_the_empty_word_comes_before_other_errors(self):
        for index in (Index("abc"), Index("")):
            self.keeps(index, EmptyText, index.count, "")
            self.keeps(index, EmptyText, index.locate, "")
            self.keeps(index, EmptyText, index.__contains__, "")
            for version in (0, 1, -1, LARGE):
                self.keeps(index, EmptyText, index.count_at, version, "")

    def test_text_limit(self):
        self.same(len(Index("a" * TEXT_LIMIT)), TEXT_LIMIT)
        self.fails(TooLarge, Index, "a" * (TEXT_LIMIT + 1))
        index = Index("ab" * (TEXT_LIMIT // 2))
        self.keeps(index, TooLarge, index.insert, 0, "x")
        self.keeps(index, TooLarge, index.insert, TEXT_LIMIT, "x")
        self.keeps(index, RangeError, index.insert, TEXT_LIMIT + 1, "x")
        self.keeps(index, RangeError, index.insert, -1, "x" * TEXT_LIMIT)
        self.same(index.count("ab"), TEXT_LIMIT // 2)
        self.same(index.locate("ba"), tuple(range(1, TEXT_LIMIT - 1, 2)))
        self.same(index.runs, 2)
        self.same(index.insert(7, ""), 1)
        self.same(index.delete(TEXT_LIMIT - 1, 1), 2)
        self.keeps(index, TooLarge, index.insert, 5, "xy")
        self.same(index.insert(0, "b"), 3)
        self.same(len(index), TEXT_LIMIT)

    def test_version_limit(self):
        index = full_history()
        self.same((index.version, index.text), (VERSION_LIMIT, "ab"))
        self.same(index.text_at(199), "acb")
        self.same(index.text_at(200), "ab")
        self.same(index.count_at(199, "c"), 1)
        self.keeps(index, TooLarge, index.insert, 0, "x")
        self.keeps(index, TooLarge, index.insert, 0, "")
        self.keeps(index, TooLarge, index.delete, 0, 1)
        self.keeps(index, TooLarge, index.delete, 2, 0)
        self.keeps(index, TooLarge, index.back, 0)
        self.keeps(index, TooLarge, index.back, VERSION_LIMIT)

    def test_other_errors_before_the_version_limit(self):
        index = full_history()
        self.keeps(index, RangeError, index.insert, 3, "x")
        self.keeps(index, RangeError, index.delete, 1, 2)
        self.keeps(index, VersionError, index.back, VERSION_LIMIT + 1)
        self.keeps(index, VersionError, index.back, -1)
        self.keeps(index, VersionError, index.text_at, VERSION_LIMIT + 1)
        self.keeps(index, VersionError, index.count_at, VERSION_LIMIT + 1, "a")

    def test_an_error_uses_no_version_up(self):
        index = Index("ab")
        for _ in range(VERSION_LIMIT + 5):
            self.fails(RangeError, index.insert, 9, "x")
            self.fails(VersionError, index.back, 1)
        self.same(index.insert(0, "x"), 1)
