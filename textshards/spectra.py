"""Spectra: windows that are counted."""

from textshards.circles import check_circle, unrolled
from textshards.errors import GrainError, RangeError, TooLarge
from textshards.grains import GRAIN_LIMIT

SIZE_LIMIT = 60


def check_spectrum(spectrum):
    """Raise an error for pairs that are no spectrum."""
    if len(spectrum) == 0:
        raise GrainError("there are no windows")
    grain = len(spectrum[0][0])
    if not 1 <= grain <= GRAIN_LIMIT or not all([len(window) == grain for window, _ in spectrum]):
        raise GrainError(f"windows have one length, from 1 to {GRAIN_LIMIT}")
    if not all([spectrum[at - 1][0] < spectrum[at][0] for at in range(1, len(spectrum))]):
        raise GrainError("windows strictly ascend")
    if not all([count >= 1 for _, count in spectrum]):
        raise RangeError("each window is there at least once")
    if sum([count for _, count in spectrum]) > SIZE_LIMIT:
        raise TooLarge(f"there are at most {SIZE_LIMIT} windows in all")


def spectrum_of(circle, grain):
    """Each window of the circle with the number of positions at which it occurs."""
    check_circle(circle)
    if not 1 <= grain <= GRAIN_LIMIT:
        raise RangeError(f"a grain is from 1 to {GRAIN_LIMIT}, not {grain}")
    if len(circle) > SIZE_LIMIT:
        raise TooLarge(f"a circle has at most {SIZE_LIMIT} letters, not {len(circle)}")
    row = unrolled(circle, len(circle) + grain - 1)
    counts = {}
    for at in range(len(circle)):
        window = row[at:at + grain]
        counts[window] = counts.get(window, 0) + 1
    return tuple([(window, counts[window]) for window in sorted(list(counts))])


def is_balanced(spectrum):
    """Whether as many windows begin with each gram as end with it."""
    more = {}
    for window, count in spectrum:
        more[window[:-1]] = more.get(window[:-1], 0) + count
        more[window[1:]] = more.get(window[1:], 0) - count
    return all([number == 0 for number in more.values()])


def comes_to_all(steps, grams):
    """Whether one comes by the steps from the first gram to all others."""
    reached = {grams[0]: True}
    trail = [grams[0]]
    while len(trail) > 0:
        gram = trail.pop()
        for start, end in steps:
            if start == gram and end not in reached:
                reached[end] = True
                trail.append(end)
    return len(reached) == len(grams)


def is_connected(spectrum):
    """Whether one comes from each gram to each other one by windows."""
    steps = [(window[:-1], window[1:]) for window, _ in spectrum]
    back = [(end, start) for start, end in steps]
    grams = sorted(set([start for start, _ in steps] + [end for _, end in steps]))
    # From each gram to the first one, and from there to each other one.
    return comes_to_all(steps, grams) and comes_to_all(back, grams)


def has_circle(spectrum):
    """Whether there is a circle with this spectrum."""
    check_spectrum(spectrum)
    return is_balanced(spectrum) and is_connected(spectrum)
