"""Marks on a line: positions for which all distances hold, or a ring of limits that cannot hold."""

from textshards.errors import DistanceError, RangeError

MARK_LIMIT = 60
DISTANCE_LIMIT = 400
FAR = 1000000


def check_distances(count, distances):
    """Raise DistanceError for distances that are not well formed."""
    if not 1 <= count <= MARK_LIMIT:
        raise DistanceError(f"there are from 1 to {MARK_LIMIT} marks, not {count}")
    if len(distances) > DISTANCE_LIMIT:
        raise DistanceError(f"there are at most {DISTANCE_LIMIT} distances, not {len(distances)}")
    for i, j, low, high in distances:
        if not (0 <= i < count and 0 <= j < count):
            raise DistanceError(f"no marks {i} and {j}")
        if not -FAR <= low <= high <= FAR:
            raise DistanceError(f"a distance is not from {low} to {high}")


def limits_of(distances):
    """All limits, each with the mark from which it leads and the one to which it leads."""
    found = []
    for at, (i, j, low, high) in enumerate(distances):
        found.append((i, j, (at, "high", high)))
        found.append((j, i, (at, "low", -low)))
    return found


def move_down(limits, positions, came):
    """Move marks down, once along each limit that does not hold; one of the marks that were moved, or None.

    The index of the limit by which a mark was moved last is put into came.
    """
    moved = None
    for at, (start, end, limit) in enumerate(limits):
        if positions[start] is not None:
            place = positions[start] + limit[2]
            if positions[end] is None or place < positions[end]:
                positions[end] = place
                came[end] = at
                moved = end
    return moved


def ring_before(limits, came, mark):
    """The limits of a ring by which marks were moved, found by going back from the mark."""
    # As many steps back as there are marks lead onto the ring.
    for _ in came:
        mark = limits[came[mark]][0]
    row = []
    at = mark
    while len(row) == 0 or at != mark:
        start, _, limit = limits[came[at]]
        row.append(limit)
        at = start
    return tuple(row[::-1])


def placed(count, distances):
    """The greatest positions at most 0 for which all distances hold, or a ring of limits."""
    check_distances(count, distances)
    limits = limits_of(distances)
    positions = [0] * count
    came = [None] * count
    for _ in range(count):
        moved = move_down(limits, positions, came)
        if moved is None:
            return "positions", tuple(positions)
    return "ring", ring_before(limits, came, moved)


def ends_of(distances, limit):
    """The mark from which the limit leads and the one to which it leads, or None if it is no limit."""
    at, end, more = limit
    if not 0 <= at < len(distances):
        return None
    i, j, low, high = distances[at]
    if end == "high" and more == high:
        return i, j
    if end == "low" and more == -low:
        return j, i
    return None


def check_ring(count, distances, limits):
    """Whether the limits are a ring whose sums add up to less than 0."""
    check_distances(count, distances)
    ends = [ends_of(distances, limit) for limit in limits]
    if len(ends) == 0 or None in ends:
        return False
    # The limit before the first one is the last one.
    if not all([ends[number - 1][1] == ends[number][0] for number in range(len(ends))]):
        return False
    return sum([more for _, _, more in limits]) < 0


def farthest(count, limits, mark):
    """For each mark the greatest difference of its position and that of this mark, None without a bound."""
    positions = [None] * count
    positions[mark] = 0
    came = [None] * count
    while move_down(limits, positions, came) is not None:
        pass
    return positions


def implied(count, distances, i, j):
    """The least and the greatest difference of the position of j and that of i, None for no bound."""
    check_distances(count, distances)
    if not (0 <= i < count and 0 <= j < count):
        raise RangeError(f"no marks {i} and {j}")
    if placed(count, distances)[0] == "ring":
        raise DistanceError("the distances cannot hold together")
    limits = limits_of(distances)
    ahead = farthest(count, limits, i)[j]
    back = farthest(count, limits, j)[i]
    # The least difference is the greatest one the other way round.
    return (None if back is None else -back), ahead
