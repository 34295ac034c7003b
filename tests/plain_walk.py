"""What the document says, walked plainly over all stretches, and rows to try."""

from itertools import product

FAR = 10 ** 29 + 7
NUMBER_OF_32_FIGURES = 10 ** 32 - 1


def all_stretches(row, least=1, most=None):
    """Each stretch as (sum, first, beyond), of lengths from least to most."""
    told = []
    for first in range(len(row)):
        total = 0
        for beyond in range(first + 1, len(row) + 1):
            total += row[beyond - 1]
            if beyond - first >= least and (most is None or beyond - first <= most):
                told.append((total, first, beyond))
    return told


def best_among(stretches):
    return min(stretches, key=lambda one: (-one[0], one[1], one[2]))


def small_rows(numbers, longest):
    for many in range(1, longest + 1):
        for row in product(numbers, repeat=many):
            yield list(row)


def mixed_row(many, seed, spread):
    """A row that looks mixed but is the same each time."""
    row = []
    state = seed
    for _ in range(many):
        state = (state * 6364136223846793005 + 1442695040888963407) % 2 ** 64
        row.append((state >> 24) % (2 * spread + 1) - spread)
    return row


def mixed_rows(how_many, longest, spread):
    for seed in range(how_many):
        yield mixed_row(1 + seed % longest, seed, spread)
