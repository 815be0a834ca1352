from itertools import product

from tests import plain
from tests.helpers import ShardCase, chance
from textshards.distances import check_distances, check_ring, implied, placed
from textshards.errors import DistanceError, RangeError

FAR = 1000000

# A number of marks and distances that are not well formed.
WRONG = (
    (0, ()),
    (-1, ()),
    (61, ()),
    (10 ** 20, ()),
    (2, ((0, 1, 0, 0),) * 401),
    (2, ((0, 2, 0, 0),)),
    (2, ((2, 0, 0, 0),)),
    (2, ((-1, 0, 0, 0),)),
    (2, ((0, -1, 0, 0),)),
    (2, ((0, 1, 1, 0),)),
    (2, ((0, 1, -FAR - 1, 0),)),
    (2, ((0, 1, 0, FAR + 1),)),
    (2, ((0, 1, FAR + 1, FAR + 1),)),
    (2, ((0, 1, -FAR - 1, -FAR - 1),)),
    (2, ((0, 1, 0, 0), (0, 1, 0, 0), (0, 2, 0, 0))),
    (1, ((0, 1, 0, 0),)),
)


def some_distances(seed, count, marks, most):
    """Numbers of marks and distances with small ends, of a mark to itself too."""
    source = chance(seed)
    found = []
    for _ in range(count):
        size = source.randint(1, marks)
        distances = []
        for _ in range(source.randint(0, most)):
            low = source.randint(-2, 2)
            distances.append((source.randrange(size), source.randrange(size), low, source.randint(low, 2)))
        found.append((size, tuple(distances)))
    return found


def by_brute_force(count, distances):
    """All positions from -9 to 0 for which the distances hold."""
    return [row for row in product(range(-9, 1), repeat=count) if plain.holds(distances, row)]


class CheckDistancesTest(ShardCase):
    def test_wrong_distances(self):
        for count, distances in WRONG:
            self.fails(DistanceError, check_distances, count, distances)
            self.fails(DistanceError, placed, count, distances)
            self.fails(DistanceError, check_ring, count, distances, ())
            self.fails(DistanceError, implied, count, distances, 0, 99)

    def test_the_limits(self):
        for count, distances in ((1, ()), (60, ()), (2, ((0, 1, 0, 0),) * 400), (2, ((0, 1, -FAR, FAR),)),
                                 (2, ((1, 0, FAR, FAR),)), (60, ((59, 0, -FAR, -FAR),)), (1, ((0, 0, 1, 1),))):
            self.assertIs(check_distances(count, distances), None)


class PlacedTest(ShardCase):
    def test_example_of_the_interface(self):
        self.same(placed(3, ((0, 1, 2, 5), (1, 2, -1, 0))), ("positions", (-2, 0, 0)))

    def test_by_the_words_of_the_document(self):
        counts = {"positions": 0, "ring": 0}
        for count, distances in some_distances(701, 400, 3, 5):
            answer, found = placed(count, distances)
            counts[answer] += 1
            rows = by_brute_force(count, distances)
            if answer == "positions":
                self.same(found, tuple(max(row[mark] for row in rows) for mark in range(count)), distances)
                self.assertIn(found, rows)
            else:
                self.assertEqual(rows, [])
                self.assertTrue(plain.is_ring(distances, found), (distances, found))
                self.assertIs(check_ring(count, distances, found), True)
        self.assertGreater(min(counts.values()), 50)

    def test_marks_with_no_distance(self):
        self.same(placed(4, ((1, 2, 3, 3),)), ("positions", (0, -3, 0, 0)))
        self.same(placed(1, ()), ("positions", (0,)))

    def test_a_distance_from_a_mark_to_itself(self):
        self.same(placed(1, ((0, 0, -1, 0),)), ("positions", (0,)))
        self.same(placed(1, ((0, 0, -2, -1),)), ("ring", ((0, "high", -1),)))
        self.same(placed(2, ((0, 1, 1, 1), (1, 1, 1, 2))), ("ring", ((1, "low", -1),)))

    def test_a_ring_far_from_the_last_mark(self):
        chain = tuple((mark, mark + 1, -5, -3) for mark in range(2, 59))
        answer, limits = placed(60, ((0, 1, 1, 1), (1, 0, 1, 1)) + chain)
        self.same(answer, "ring")
        self.assertTrue(plain.is_ring(((0, 1, 1, 1), (1, 0, 1, 1)), limits), limits)

    def test_long_chains(self):
        for marks in (list(range(60)), list(range(59, -1, -1))):
            chain = tuple((one, other, -2, -1) for one, other in zip(marks, marks[1:]))
            expected = [0] * 60
            for place, mark in enumerate(marks):
                expected[mark] = -place
            self.same(placed(60, chain), ("positions", tuple(expected)))
            self.same(placed(60, chain[::-1]), ("positions", tuple(expected)))
            answer, limits = placed(60, chain + ((marks[59], marks[0], 0, 58),))
            self.same(answer, "ring")
            self.assertTrue(plain.is_ring(chain + ((marks[59], marks[0], 0, 58),), limits))
            self.same(placed(60, chain + ((marks[59], marks[0], 0, 59),))[0], "positions")

    def test_many_distances(self):
        source = chance(702)
        for spread in (0, 5, 40):
            truth = [source.randint(-FAR // 3, FAR // 3) for _ in range(60)]
            distances = []
            for _ in range(400):
                i, j = source.randrange(60), source.randrange(60)
                apart = truth[j] - truth[i]
                distances.append((i, j, apart - source.randint(0, spread), apart + source.randint(0, spread)))
            answer, found = placed(60, tuple(distances))
            self.same(answer, "positions")
            self.assertTrue(plain.holds(distances, found))
            self.assertEqual(max(found), 0)
            i, j, _, high = distances[200]
            distances[399] = (i, j, high + 1, high + 300)
            answer, found = placed(60, tuple(distances))
            self.same(answer, "ring")
            self.assertTrue(plain.is_ring(distances, found))


class CheckRingTest(ShardCase):
    def compare(self, count, distances, limits):
        expected = plain.is_ring(distances, limits)
        self.same(check_ring(count, distances, limits), expected, (count, distances, limits))
        return expected

    def test_rings_turned_doubled_and_spoilt(self):
        counts = {True: 0, False: 0}
        for count, distances in some_distances(703, 400, 4, 6):
            answer, limits = placed(count, distances)
            if answer != "ring":
                continue
            for at in range(len(limits)):
                self.assertTrue(self.compare(count, distances, limits[at:] + limits[:at]))
                index, end, more = limits[at]
                for other in ((index + 1, end, more), (index - 1, end, more), (-1, end, more), (len(distances), end, more),
                              (index, "low" if end == "high" else "high", more), (index, end, more + 1),
                              (index, end, more - 1), (index, end, -more), (index, "", more), (index, "lows", more)):
                    counts[self.compare(count, distances, limits[:at] + (other,) + limits[at + 1:])] += 1
                for other in (limits[:at] + limits[at + 1:], limits[:at + 1] + limits[at:], limits[::-1]):
                    counts[self.compare(count, distances, other)] += 1
            self.assertTrue(self.compare(count, distances, limits + limits))
        self.assertGreater(min(counts.values()), 50)

    def test_rows_of_any_limits(self):
        counts = {True: 0, False: 0}
        for count, distances in some_distances(704, 60, 3, 3):
            every = [(at, "high", high) for at, (_, _, _, high) in enumerate(distances)]
            every += [(at, "low", -low) for at, (_, _, low, _) in enumerate(distances)]
            for size in range(4):
                for limits in product(every, repeat=size):
                    counts[self.compare(count, distances, limits)] += 1
        self.assertGreater(min(counts.values()), 50)

    def test_rows_that_are_no_ring(self):
        distances = ((0, 1, 1, 2), (1, 2, 1, 2), (2, 0, 1, 2))
        self.same(check_ring(3, distances, ()), False)
        self.same(check_ring(3, distances, ((2, "low", -1), (1, "low", -1), (0, "low", -1))), True)
        self.same(check_ring(3, distances, ((0, "low", -1), (1, "low", -1), (2, "low", -1))), False)
        self.same(check_ring(3, distances, ((0, "high", 2), (1, "high", 2), (2, "high", 2))), False)
        self.same(check_ring(3, distances, ((2, "low", -1), (1, "low", -1))), False)
        self.same(check_ring(2, ((0, 1, 1, 2), (1, 0, -1, 0)), ((0, "low", -1), (1, "low", 1))), False)


class ImpliedTest(ShardCase):
    def test_by_the_words_of_the_document(self):
        ends = {True: 0, False: 0}
        for count, distances in some_distances(705, 200, 3, 4):
            # Bounded differences are at most 4 here, so a greater one tells that there is no bound.
            rows = [row for row in product(range(-9, 10), repeat=count) if row[0] == 0 and plain.holds(distances, row)]
            for i, j in product(range(count), repeat=2):
                if not rows:
                    self.fails(DistanceError, implied, count, distances, i, j)
                    continue
                apart = [row[j] - row[i] for row in rows]
                expected = (min(apart) if min(apart) >= -4 else None, max(apart) if max(apart) <= 4 else None)
                self.same(implied(count, distances, i, j), expected, (count, distances, i, j))
                ends[None in expected] += 1
        self.assertGreater(min(ends.values()), 100)

    def test_marks_without_bounds(self):
        self.same(implied(3, ((0, 1, 2, 5),), 0, 2), (None, None))
        self.same(implied(3, ((0, 1, 2, 5),), 2, 2), (0, 0))
        self.same(implied(3, ((0, 1, 2, 5),), 1, 0), (-5, -2))
        self.same(implied(3, ((0, 1, 2, 5), (1, 2, -1, 0)), 0, 2), (1, 5))

    def test_far_marks(self):
        chain = tuple((mark, mark + 1, FAR - 1, FAR) for mark in range(59))
        self.same(implied(60, chain, 0, 59), (59 * (FAR - 1), 59 * FAR))
        self.same(implied(60, chain, 59, 0), (-59 * FAR, -59 * (FAR - 1)))

    def test_errors_in_their_order(self):
        ring = ((0, 1, 1, 1), (1, 0, 1, 1))
        for i, j in ((2, 0), (0, 2), (-1, 0), (0, -1), (60, 60)):
            self.fails(RangeError, implied, 2, ring, i, j)
            self.fails(DistanceError, implied, 2, ring + ((0, 1, 1, 0),), i, j)
        self.fails(DistanceError, implied, 2, ring, 0, 1)
        self.fails(DistanceError, implied, 3, ring, 2, 2)
