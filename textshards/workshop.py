"""A workshop: pieces that come and go, and what is certain for those that it has."""

from textshards.certain import decide
from textshards.checks import check_shape
from textshards.errors import RangeError, TooLarge
from textshards.grains import PIECE_LIMIT, check_grain, check_piece
from textshards.lines import LINE_LIMIT


class Workshop:
    """Pieces with numbers in the order of adding, for one grain and one shape."""

    def __init__(self, grain, shape):
        check_grain(grain)
        check_shape(shape)
        self._grain = grain
        self._shape = shape
        self._most = LINE_LIMIT if shape == "line" else PIECE_LIMIT
        self._pieces = {}
        self._added = 0

    @property
    def held(self):
        """The pairs (number, piece) of all pieces, ascending."""
        return tuple([(number, piece) for number, piece in self._pieces.items()])

    def add(self, piece):
        """Add a piece; its number."""
        self._check_more(piece)
        number = self._added
        self._pieces[number] = piece
        self._added = number + 1
        return number

    def remove(self, number):
        """Remove the piece with the number."""
        if number not in self._pieces:
            raise RangeError(f"there is no piece number {number}")
        del self._pieces[number]

    def ask(self, word):
        """What decide returns for the pieces and the word."""
        return decide(self._in_order(), self._grain, word, self._shape)

    def what_if(self, piece, word):
        """What ask would return if the piece were added; it is not."""
        self._check_more(piece)
        return decide(self._in_order() + (piece,), self._grain, word, self._shape)

    def _in_order(self):
        """The pieces in the order of their numbers, which is the order of adding."""
        return tuple(list(self._pieces.values()))

    def _check_more(self, piece):
        """Raise an error for a piece that cannot be added."""
        check_piece(piece, self._grain)
        if len(self._pieces) >= self._most:
            raise TooLarge(f"there are at most {self._most} pieces")
