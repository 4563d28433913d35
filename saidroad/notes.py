"""Walkers and a start as texts."""

from saidroad.checks import check_place, check_walkers
from saidroad.errors import BadText

MOST_FIGURES = 2


def written(walkers, start):
    """The text of walkers and a start."""
    check_walkers(walkers)
    check_place(start)
    rows = [f"said {start}"]
    for place, pace in walkers:
        rows.append(f"walker {place} {pace}")
    return "\n".join(rows)


def read(text):
    """The walkers and the start of a text."""
    if not isinstance(text, str):
        raise BadText(0)
    numbers = []
    for row, line in enumerate(text.split("\n")):
        numbers.append(numbers_of(row, line.split(" ")))
    walkers = tuple([tuple(pair) for pair in numbers[1:]])
    check_walkers(walkers)
    return (walkers, numbers[0][0])


def numbers_of(row, words):
    """The numbers that a row of these words has."""
    if row == 0:
        head, many = "said", 1
    else:
        head, many = "walker", 2
    figures = words[1:]
    if words[0] != head or len(figures) != many:
        raise BadText(row)
    for word in figures:
        if not is_figures(word):
            raise BadText(row)
    return [int(word) for word in figures]


def is_figures(word):
    """Whether this is a number of one or two figures, just as it's written by itself."""
    figures = word.removeprefix("-")
    return figures.isdecimal() and len(figures) <= MOST_FIGURES and str(int(word)) == word
