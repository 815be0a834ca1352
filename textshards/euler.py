"""The least circle that has a spectrum."""

from textshards.errors import RingError
from textshards.spectra import has_circle


def leads_through_all(left, gram):
    """Whether one comes from the gram to all windows that are left; left has counts, some of them 0."""
    waiting = [window for window in left if left[window] > 0]
    trail = [gram]
    reached = {gram: True}
    while len(trail) > 0:
        gram = trail.pop()
        ends = [window[1:] for window in waiting if window[:-1] == gram]
        waiting = [window for window in waiting if window[:-1] != gram]
        for end in ends:
            if end not in reached:
                reached[end] = True
                trail.append(end)
    return len(waiting) == 0


def without_one(left, window):
    """The counts with this window once less."""
    return {other: left[other] - 1 if other == window else left[other] for other in left}


def next_window(left, gram):
    """The least window behind the gram after which all others can still be read, up to the first gram."""
    for window in left:
        # As many windows end with each gram as begin with it, so windows that can be reached can be read.
        if window[:-1] == gram and left[window] > 0 and leads_through_all(without_one(left, window), window[1:]):
            return window
    raise RingError(f"no window goes on behind {gram}")


def one_circle(spectrum):
    """The least text of all circles with this spectrum and all their turns."""
    if not has_circle(spectrum):
        raise RingError("no circle has this spectrum")
    # Windows ascend in the spectrum, so the first one begins with the least gram, as the least turn does.
    left = {window: count for window, count in spectrum}
    gram = spectrum[0][0][:-1]
    letters = []
    for _ in range(sum(left.values())):
        window = next_window(left, gram)
        left = without_one(left, window)
        # The first letter, as a circle can be shorter than its windows.
        letters.append(window[0])
        gram = window[1:]
    return "".join(letters)
