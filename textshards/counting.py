"""How many circles have a spectrum."""

from math import factorial, gcd

from textshards.spectra import has_circle


def next_rows(rows, divisor):
    """The rows below the first one with its first column removed, by an elimination without fractions."""
    first = rows[0]
    return [[(first[0] * row[at] - row[0] * first[at]) // divisor for at in range(1, len(row))] for row in rows[1:]]


def determinant(rows):
    """The determinant of a square matrix of integers that needs no exchange of rows."""
    divisor = 1
    while len(rows) > 0:
        pivot = rows[0][0]
        rows = next_rows(rows, divisor)
        divisor = pivot
    return divisor


def windows_out(spectrum):
    """For each gram the sum of the counts of the windows that begin with it."""
    sums = {}
    for window, count in spectrum:
        sums[window[:-1]] = sums.get(window[:-1], 0) + count
    return sums


def trees_of(spectrum):
    """The trees of a balanced and connected spectrum."""
    sums = windows_out(spectrum)
    # Any one gram may be the one to which all others lead.
    grams = list(sums)[1:]
    places = {gram: at for at, gram in enumerate(grams)}
    rows = [[sums[gram] if one == at else 0 for one in range(len(grams))] for at, gram in enumerate(grams)]
    for window, count in spectrum:
        if window[:-1] in places and window[1:] in places:
            rows[places[window[:-1]]][places[window[1:]]] -= count
    return determinant(rows)


def size_of(spectrum):
    """The sum of all counts: how many letters a circle with this spectrum has."""
    return sum([count for _, count in spectrum])


def texts_with(spectrum):
    """How many texts have this spectrum as circles, each turn counting for itself.

    This is the number L of the document times the size: a circle that repeats its root r times has
    one r-th as many turns as letters.
    """
    texts = size_of(spectrum) * trees_of(spectrum)
    for total in windows_out(spectrum).values():
        texts = texts * factorial(total - 1)
    for _, count in spectrum:
        texts = texts // factorial(count)
    return texts


def shared_divisors(spectrum):
    """All numbers that divide all counts, descending."""
    common = 0
    for _, count in spectrum:
        common = gcd(common, count)
    return [number for number in range(common, 0, -1) if common % number == 0]


def divided(spectrum, number):
    """The spectrum of a root that is repeated so often."""
    return tuple([(window, count // number) for window, count in spectrum])


def count_circles(spectrum):
    """How many circles have this spectrum, texts that are the same circle counting once."""
    if not has_circle(spectrum):
        return 0
    circles = 0
    unrepeated = {}
    for number in shared_divisors(spectrum):
        root = divided(spectrum, number)
        # Texts that repeat a root more often than this were counted for a greater number.
        repeated = sum([unrepeated[other] for other in unrepeated if other % number == 0])
        unrepeated[number] = texts_with(root) - repeated
        circles += unrepeated[number] // size_of(root)
    return circles
