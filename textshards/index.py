"""A text that is edited and keeps all its versions."""

from textshards.errors import EmptyText, RangeError, TooLarge, VersionError
from textshards.texts import occurrences
from textshards.transform import runs_of, transform

TEXT_LIMIT = 2000
VERSION_LIMIT = 200


class Index:
    """All versions of a text, the present one last, and questions about them."""

    def __init__(self, text):
        if len(text) > TEXT_LIMIT:
            raise TooLarge(f"a text of {len(text)} letters")
        self._texts = [text]

    @property
    def text(self):
        """The present text."""
        return self._texts[-1]

    @property
    def version(self):
        """The number of the present version."""
        return len(self._texts) - 1

    @property
    def runs(self):
        """How many runs the column of the transform of the text has."""
        column, _ = transform(self._texts[-1])
        return len(runs_of(column))

    def __len__(self):
        return len(self._texts[-1])

    def __contains__(self, word):
        if word == "":
            raise EmptyText("the empty word is not asked for")
        return word in self._texts[-1]

    def count(self, word):
        """How often the word occurs in the text."""
        return len(self.locate(word))

    def locate(self, word):
        """Where the word occurs in the text, ascending."""
        return occurrences(self._texts[-1], word)

    def insert(self, at, word):
        """Put the word in front of the position; the new version."""
        text = self._texts[-1]
        if not 0 <= at <= len(text):
            raise RangeError(f"no position {at} to insert at")
        return self._become(text[:at] + word + text[at:])

    def delete(self, at, count):
        """Remove count letters from the position on; the new version."""
        text = self._texts[-1]
        if at < 0 or count < 0 or at + count > len(text):
            raise RangeError(f"no {count} letters at {at} to delete")
        return self._become(text[:at] + text[at + count:])

    def back(self, version):
        """Make the text what it was at a version so far; the new version."""
        return self._become(self.text_at(version))

    def text_at(self, version):
        """The text at a version so far."""
        if not 0 <= version < len(self._texts):
            raise VersionError(f"no version {version}")
        return self._texts[version]

    def count_at(self, version, word):
        """How often the word occurred in the text at a version so far."""
        if word == "":
            raise EmptyText("the empty word is not asked for")
        return len(occurrences(self.text_at(version), word))

    def _become(self, text):
        """Let the text be the next version, if the limits allow it; the new version."""
        if len(text) > TEXT_LIMIT or len(self._texts) > VERSION_LIMIT:
            raise TooLarge(f"no version {len(self._texts)} of {len(text)} letters")
        self._texts.append(text)
        return len(self._texts) - 1
