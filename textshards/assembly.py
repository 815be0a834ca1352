"""From placed pieces with errors to a report."""

from textshards.certain import check_many, decide, some_text
from textshards.checks import WORD_LIMIT, check_shape
from textshards.correcting import corrected, voted
from textshards.grains import check_shards
from textshards.growing import Judge
from textshards.strands import strands
from textshards.voting import possible_letters


class Report:
    """What is known of a text from its pieces."""

    def __init__(self, consensus, sure, shards, told, findings):
        self.consensus = consensus
        self.sure = sure
        self.pieces, self.grain, self.shape = shards
        self.example = told
        self.findings = findings

    def paper(self, strand):
        """What decide returns for the corrected pieces and the word."""
        return decide(self.pieces, self.grain, strand, self.shape)


def findings_of(pieces, grain, shape):
    """The pairs of each strand that is not too long and whether it is certain."""
    judge = Judge(pieces, grain, shape)
    short = [strand for strand in strands(pieces, grain) if len(strand) <= WORD_LIMIT]
    return tuple([(strand, "always" if judge.certain(strand) else "lacking") for strand in short])


def assemble(size, placed_pieces, alphabet, budget, grain, shape):
    """The report on placed pieces: the voted text, and what is certain for the corrected pieces."""
    letters = possible_letters(size, placed_pieces, alphabet, budget)
    consensus = voted(size, placed_pieces, alphabet)
    pieces = corrected(placed_pieces, consensus)
    check_shards(pieces, grain)
    check_shape(shape)
    check_many(pieces, shape)
    sure = "".join(["+" if len(possible) == 1 else "-" for possible in letters])
    text = some_text(pieces, grain, shape)
    told = "" if text is None else text
    return Report(consensus, sure, (pieces, grain, shape), told, findings_of(pieces, grain, shape))
