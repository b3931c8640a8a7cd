"""Shuffles: rows of the numbers below n, each once, kept as tuples."""

from shufflegroups.structure import MOST_GENERATORS

MOST_PLACES = 6


def unmoved(n):
    return tuple(range(n))


def first_then(first, second):
    return tuple([second[x] for x in first])


def is_shuffle(row, n):
    return sorted(row) == list(range(n))


def parted(n, numbers):
    """The shuffles of n places that stand one behind another, or None if these aren't 4 at most."""
    if n < 1 or n > MOST_PLACES:
        return None
    if len(numbers) > n * MOST_GENERATORS:
        return None
    shuffles = []
    for start in range(0, len(numbers), n):
        # Where the numbers don't come out even, the last row is too short for a shuffle.
        row = numbers[start:start + n]
        if not is_shuffle(row, n):
            return None
        shuffles.append(tuple(row))
    return shuffles
