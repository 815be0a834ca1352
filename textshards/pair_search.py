"""Looking for a line that explains shards, keeps pairs and lacks some words."""

from heapq import heapify, heappop, heappush

from textshards.line_graph import LineGraph
from textshards.overlaps import free_pieces

# More letters than any line that is looked for.
NEVER = 1000000
# What was read of a pair is a number with one bit. It is this one as long as neither of its words is chosen.
WAITING = 1
# It is the bit k, from 1 on, if an occurrence of the first word is chosen that begins k letters before the end
# of what was read, and the bit AGES + k if one of the second word is. No age is as great as this.
AGES = 26
# It has all 2 * AGES bits if the pair is kept, as this is worth more than anything else.
KEPT = 4503599627370495


def nodes_before(steps):
    """For each node the nodes from which ways lead to it."""
    before = [[] for _ in steps]
    for node, ways in enumerate(steps):
        for _, other in ways:
            before[other].append(node)
    return before


def nearest(before, costs):
    """For each node the least cost of a node to which ways lead from it, and one more for each way."""
    least = list(costs)
    queue = [(cost, node) for node, cost in enumerate(costs) if cost < NEVER]
    heapify(queue)
    while len(queue) > 0:
        cost, node = heappop(queue)
        if cost == least[node]:
            for earlier in before[node]:
                if cost + 1 < least[earlier]:
                    least[earlier] = cost + 1
                    heappush(queue, (cost + 1, earlier))
    return least


def lengths_to(before, ends):
    """For each node, as the bits of a number, by how many letters one comes from it to one of the ends."""
    lengths = [0] * len(before)
    row = ends
    for count in range(AGES):
        for node in row:
            lengths[node] = lengths[node] | (1 << count)
        row = list({earlier: True for node in row for earlier in before[node]})
    return lengths


def least_between(lengths, low, high):
    """The least number from low to high, at least 1, that is one of the lengths, or NEVER."""
    start = max(low, 1)
    if high < start:
        return NEVER
    part = (lengths >> start) & ((1 << (high - start + 1)) - 1)
    return NEVER if part == 0 else start + (part & -part).bit_length() - 1


class PairWatch:
    """The ways to keep one pair, the words of which end where the graph has the two bits from this one on.

    Of its words the one that ends first is chosen when it ends, or waited for again; the other one has to end
    in time then.
    """

    def __init__(self, graph, before, pair, bit):
        one, other, self.low, self.high = pair
        self.sizes = len(one), len(other)
        self.marks = 1 << bit, 1 << (bit + 1)
        # The longer word tells more of how many letters are needed together with pieces and other pairs.
        self.longer = 1 if len(other) > len(one) else 0
        # By how many letters one comes from each node to the end of either word.
        self.behind = [lengths_to(before, [node for node, ended in enumerate(graph.ended) if ended & mark > 0])
                       for mark in self.marks]
        self.unseen = [NEVER] * len(before)
        costs = [min([self.far(seen, node) for seen in self.after(WAITING, ended)])
                 for node, ended in enumerate(graph.ended)]
        self.unseen = nearest(before, costs)

    def fits(self, one_age, other_age):
        """Whether words that begin so many letters before the end keep the pair."""
        return self.low <= one_age - other_age <= self.high

    def chosen(self, ended):
        """What may have been read of the pair if one of its words is chosen that end now."""
        choices = ((self.marks[0], 1 << self.sizes[0]), (self.marks[1], 1 << (AGES + self.sizes[1])))
        return [seen for mark, seen in choices if ended & mark > 0]

    def after(self, seen, ended):
        """All that may have been read of the pair behind a letter at which these words end."""
        if seen == KEPT:
            return [KEPT]
        if seen == WAITING:
            choices = self.chosen(ended)
            return [KEPT] if len(choices) == 2 and self.fits(self.sizes[0], self.sizes[1]) else [WAITING] + choices
        # The letter makes the word that was chosen older by 1.
        age = seen.bit_length()
        if age < AGES and ended & self.marks[1] > 0 and self.fits(age, self.sizes[1]):
            return [KEPT]
        if age > AGES and ended & self.marks[0] > 0 and self.fits(self.sizes[0], age - AGES):
            return [KEPT]
        return [seen << 1]

    def needs_longer(self, seen):
        """Whether the longer word of the pair is still to end."""
        if seen == KEPT or seen == WAITING:
            return seen == WAITING
        return (seen.bit_length() <= AGES) == (self.longer == 1)

    def far(self, seen, node):
        """The least number of letters behind the node by which the pair is kept."""
        if seen == KEPT:
            return 0
        if seen == WAITING:
            return self.unseen[node]
        one, other = self.sizes
        age = seen.bit_length() - 1
        if age < AGES:
            return least_between(self.behind[1][node], self.low + other - age, self.high + other - age)
        return least_between(self.behind[0][node], one - self.high - (age - AGES), one - self.low - (age - AGES))


def goal_tables(before, ends, many):
    """For each set of goals and each node, by how many letters all of them end; ends tells which end at a node."""
    tables = [[0] * len(before)]
    for goals in range(1, 1 << many):
        costs = [tables[goals & ~ended][node] if goals & ended > 0 else NEVER for node, ended in enumerate(ends)]
        tables.append(nearest(before, costs))
    return tables


class PairSearch:
    """Lines of the shards that lack the barred words, read letter by letter with a choice of words for the pairs.

    The worth of what was read is a number: a bit for each piece that is found, then 2 * AGES bits for each pair.
    A haste of 1 finds the shortest line, of several the least one; a greater one finds some line sooner.
    """

    def __init__(self, pieces, grain, pairs, barred, haste):
        free = free_pieces(pieces)
        words = [word for one, other, _, _ in pairs for word in (one, other)]
        self.graph = LineGraph(pieces, grain, free + tuple(words), barred)
        self.steps = self.graph.least_steps()
        before = nodes_before(self.steps)
        self.pieces = (1 << len(free)) - 1
        self.watches = [PairWatch(self.graph, before, pair, len(free) + 2 * at) for at, pair in enumerate(pairs)]
        marks = [1 << at for at in range(len(free))] + [watch.marks[watch.longer] for watch in self.watches]
        ends = [sum([1 << at for at, mark in enumerate(marks) if ended & mark > 0]) for ended in self.graph.ended]
        self.tables = goal_tables(before, ends, len(marks))
        self.shifts = [len(free) + 2 * AGES * at for at in range(len(pairs))]
        self.goals = [1 << at for at in range(len(free))] + [KEPT << shift for shift in self.shifts]
        self.haste = haste
        self.queue = []
        self.met = {}

    def after(self, worth, ended):
        """All that may have been read behind a letter at which these words end."""
        rows = [(worth | ended) & self.pieces]
        for watch, shift in zip(self.watches, self.shifts):
            choices = watch.after((worth >> shift) & KEPT, ended)
            rows = [row | (seen << shift) for row in rows for seen in choices]
        return rows

    def far(self, node, worth):
        """At least so many letters are needed behind the node until all pieces are found and all pairs kept."""
        goals = self.pieces & ~worth
        least = 0
        goal = self.pieces + 1
        for watch, shift in zip(self.watches, self.shifts):
            seen = (worth >> shift) & KEPT
            least = max(least, watch.far(seen, node))
            if watch.needs_longer(seen):
                goals = goals | goal
            goal = goal << 1
        return max(least, self.tables[goals][node])

    def is_first(self, text, node, worth):
        """Whether no text that is shorter, or as long and less, came to the node with as much worth or more."""
        rows = [worth]
        for goal in self.goals:
            if worth & goal != goal:
                rows = rows + [row | goal for row in rows]
        for row in rows:
            other = self.met.get((node, row))
            if other is not None and (len(other), other) <= (len(text), text):
                return False
        return True

    def meet(self, text, node, worth):
        """Put the text into the queue by the length to which it leads at least, unless another one does as well."""
        far = self.far(node, worth)
        if far < NEVER and self.is_first(text, node, worth):
            self.met[node, worth] = text
            heappush(self.queue, (len(text) + self.haste * far, text, node, worth))

    def begin(self):
        """Put all grams with which a line begins into the queue."""
        for gram, node in self.graph.firsts:
            rows = [sum([WAITING << shift for shift in self.shifts])]
            for tail in self.graph.tails_in(gram)[1:]:
                ended = self.graph.words_at(tail)
                rows = [other for worth in rows for other in self.after(worth, ended)]
            for worth in rows:
                self.meet(gram, node, worth)

    def line(self):
        """The first line that is found, or None if there is none."""
        self.begin()
        whole = sum(self.goals)
        while len(self.queue) > 0:
            _, text, node, worth = heappop(self.queue)
            if worth == whole:
                return text
            # The text may have been surpassed while it was in the queue.
            if self.met[node, worth] == text:
                for letter, other in self.steps[node]:
                    for more in self.after(worth, self.graph.ended[other]):
                        self.meet(text + letter, other, more)
        return None
