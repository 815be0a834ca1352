"""Lines that explain shards, counted and numbered in alphabetical order."""

from textshards.errors import LackingError, RangeError
from textshards.explaining import explains_as_line
from textshards.grains import check_shards
from textshards.line_graph import LineGraph
from textshards.lines import check_line_limit
from textshards.overlaps import free_pieces

SIZE_LIMIT = 60


def chosen(choices, number):
    """The part and the place of the choice to which the line with this number belongs, and its number there."""
    rest = number
    for part, place, count in choices:
        if 0 <= rest < count:
            return part, place, rest
        rest -= count
    raise RangeError(f"there is no line number {number}")


def passed(choices, part):
    """How many lines belong to lesser choices than this part, and the place behind it."""
    less = sum([count for other, _, count in choices if other < part])
    return less, [place for other, place, _ in choices if other == part][0]


def counted_targets(ways):
    """The pairs (node, count) of how many ways lead to each node."""
    counts = {}
    for _, other in ways:
        counts[other] = counts.get(other, 0) + 1
    return list(counts.items())


class LineCounts:
    """How many lines of one size explain the shards, and how many of them go on from each place.

    A place is a node and a number, the bits of which are the pieces that are still to be found.
    """

    def __init__(self, pieces, grain, size):
        # Where these are found, all others are found, too.
        free = free_pieces(pieces)
        self.graph = LineGraph(pieces, grain, free, ())
        self.targets = [counted_targets(ways) for ways in self.graph.steps]
        self.missing = (1 << len(free)) - 1
        self.left = max(size - grain + 1, 0)
        # For each place how many letters are read at least, and the places from which one comes to it.
        self.depth = {(node, self.missing): 0 for _, node in self.graph.firsts}
        self.before = {place: [] for place in self.depth}
        self.explore()
        self.tables = [{place: 1 for place in self.depth if place[1] == 0}]
        for left in range(1, self.left + 1):
            self.tables.append(self.one_letter_more(self.tables[-1], self.left - left))

    def explore(self):
        """Find all places that are reached by as many letters as there are."""
        row = list(self.depth)
        for read in range(1, self.left + 1):
            further = []
            for node, missing in row:
                for other, many in self.targets[node]:
                    place = other, missing & ~self.graph.ended[other]
                    if place not in self.depth:
                        self.depth[place] = read
                        self.before[place] = []
                        further.append(place)
                    self.before[place].append(((node, missing), many))
            row = further

    def one_letter_more(self, table, read):
        """How many lines go on by one letter more than in the table, from places where so many may be read."""
        counts = {}
        for place, count in table.items():
            for earlier, many in self.before[place]:
                if self.depth[earlier] <= read:
                    counts[earlier] = counts.get(earlier, 0) + many * count
        return counts

    def lines_from(self, place, left):
        """How many lines go on from the place by so many letters."""
        return self.tables[left].get(place, 0)

    def beginnings(self):
        """The triples (gram, place, count) of all grams with which lines begin, ascending."""
        places = [(gram, (node, self.missing)) for gram, node in self.graph.firsts]
        return [(gram, place, self.lines_from(place, self.left)) for gram, place in places]

    def choices(self, place, left):
        """The triples (letter, place, count) of all letters behind the place, ascending, with so many behind them."""
        node, missing = place
        places = [(letter, (other, missing & ~self.graph.ended[other])) for letter, other in self.graph.steps[node]]
        return [(letter, other, self.lines_from(other, left)) for letter, other in places]

    def total(self):
        """How many lines there are."""
        return sum([count for _, _, count in self.beginnings()])

    def line(self, number):
        """The line with this number; RangeError if there is none."""
        text, place, number = chosen(self.beginnings(), number)
        for left in range(self.left - 1, -1, -1):
            letter, place, number = chosen(self.choices(place, left), number)
            text = text + letter
        return text

    def number(self, text):
        """The number of the line, which is one of them."""
        size = len(text) - self.left
        number, place = passed(self.beginnings(), text[:size])
        for at in range(size, len(text)):
            less, place = passed(self.choices(place, len(text) - at - 1), text[at])
            number += less
        return number


def check_lines(pieces, grain):
    """Raise an error for shards of which lines are not counted."""
    check_shards(pieces, grain)
    check_line_limit(pieces)


def check_size(size):
    """Raise RangeError for a number of letters of which lines are not counted."""
    if not 1 <= size <= SIZE_LIMIT:
        raise RangeError(f"lines have from 1 to {SIZE_LIMIT} letters, not {size}")


def count_lines(pieces, grain, size):
    """How many texts of so many letters explain the shards as a line."""
    check_lines(pieces, grain)
    check_size(size)
    return LineCounts(pieces, grain, size).total()


def line_at(pieces, grain, size, number):
    """The text with this number among those that explain the shards as a line, in alphabetical order."""
    check_lines(pieces, grain)
    check_size(size)
    return LineCounts(pieces, grain, size).line(number)


def number_of(pieces, grain, text):
    """The number of a text among those of its length that explain the shards as a line."""
    check_lines(pieces, grain)
    check_size(len(text))
    if not explains_as_line(pieces, grain, text):
        raise LackingError(f"{text} does not explain the shards")
    return LineCounts(pieces, grain, len(text)).number(text)


def one_letter_further(graph, steps, row, seen):
    """The texts of one letter more that lead to places not yet seen, each with its place; they are seen now."""
    longer = []
    # The texts of a row ascend and have one length, so the first one that leads to a place is the best.
    for text, node, missing in row:
        for letter, other in steps[node]:
            place = other, missing & ~graph.ended[other]
            if place not in seen:
                seen[place] = True
                longer.append((text + letter, other, place[1]))
    return longer


def shortest_line(pieces, grain):
    """The shortest text that explains the shards as a line, of several the least one, or None."""
    check_lines(pieces, grain)
    free = free_pieces(pieces)
    graph = LineGraph(pieces, grain, free, ())
    steps = graph.least_steps()
    row = [(gram, node, (1 << len(free)) - 1) for gram, node in graph.firsts]
    seen = {(node, missing): True for _, node, missing in row}
    while len(row) > 0:
        row = one_letter_further(graph, steps, row, seen)
        whole = [text for text, _, missing in row if missing == 0]
        if len(whole) > 0:
            return whole[0]
    return None
