"""What the document says, walked plainly over all stretches, and rows to try."""

from itertools import product

FAR = 10 ** 29 + 7
NUMBER_OF_32_FIGURES = 10 ** 32 - 1


def all_stretches(row, least=1, most=None):
    """Each stretch as (sum, first, beyond), of lengths from least to most."""
    told = []
    for first in range(len(row)):
        total = 0
        for beyond in range(first + 1, len(row) + 1):
            total += row[beyond - 1]
            if beyond - first >= least and (most is None or beyond - first <= most):
                told.append((total, first, beyond))
    return told


def best_among(stretches):
    return min(stretches, key=lambda one: (-one[0], one[1], one[2]))


def all_lengths(row):
    """Each least and most length that fit, the most one also above how many there are."""
    for least in range(1, len(row) + 1):
        for most in range(least, len(row) + 3):
            yield least, most
        yield least, FAR


def all_ring_stretches(ring, least=1, most=None):
    """Each stretch of a ring as (sum, first, many), gone round number by number."""
    for first in range(len(ring)):
        total = 0
        place = first
        for many in range(1, len(ring) + 1):
            total += ring[place]
            place = place + 1 if place + 1 < len(ring) else 0
            if many >= least and (most is None or many <= most):
                yield total, first, many


def all_apart(row, many, gap, start=0):
    """Each list of so many stretches a gap apart as (sum, stretches)."""
    if many == 0:
        return [(0, [])]
    told = []
    for first in range(start, len(row)):
        for beyond in range(first + 1, len(row) + 1):
            total = sum(row[first:beyond])
            for rest, behind in all_apart(row, many - 1, gap, beyond + gap):
                told.append((total + rest, [(first, beyond)] + behind))
    return told


def flat(stretches):
    return [place for stretch in stretches for place in stretch]


def best_of_lists(lists):
    """The greatest sum, and of these the first such; None where there is none."""
    return min(lists, key=lambda one: (-one[0], flat(one[1])), default=None)


def small_rows(numbers, longest):
    for many in range(1, longest + 1):
        for row in product(numbers, repeat=many):
            yield list(row)


def mixed_row(many, seed, spread):
    """A row that looks mixed but is the same each time, from -spread to spread."""
    row = []
    state = seed
    for _ in range(many):
        drawn = 0
        # Far more than the spread is drawn, so that great numbers lie on both sides of nought.
        while drawn <= 1000 * spread:
            state = (state * 6364136223846793005 + 1442695040888963407) % 2 ** 64
            drawn = (drawn << 40) + (state >> 24) + 1
        row.append(drawn % (2 * spread + 1) - spread)
    return row


def mixed_rows(how_many, longest, spread):
    for seed in range(how_many):
        yield mixed_row(1 + seed % longest, seed, spread)


def mixed_changes(row, many, seed, spread):
    """So many changes of a row, tuples (place, number), that look mixed but are the same each time."""
    places = mixed_row(many, seed, 10 ** 6)
    return [(place % len(row), number) for place, number in zip(places, mixed_row(many, seed + 1, spread))]
