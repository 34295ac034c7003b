"""Stretches that hold a row, far places, and the best stretch with few numbers below nought."""

from topstretch.errors import NoCount, NoLength
from topstretch.plain import is_stretch, is_whole


def refuse_length(most):
    if most < 1:
        raise NoLength("a length is 1 or more")


def far_places(row, most):
    refuse_length(most)
    places = []
    for place in range(len(row)):
        if row[place] > 0 and (not places or place - places[-1] >= most):
            places.append(place)
    return places


def fewest_holding(row, most):
    # Where a stretch begins, the ones ahead of it have ended: so the firsts are
    # just the far places.
    return [(first, min(first + most, len(row))) for first in far_places(row, most)]


def holds_row(row, most, stretches):
    refuse_length(most)
    stands = [False] * len(row)
    for stretch in stretches:
        if not is_stretch(stretch, len(row)) or stretch[1] - stretch[0] > most:
            return False
        for place in range(stretch[0], stretch[1]):
            stands[place] = True
    return all([stands[place] for place in range(len(row)) if row[place] > 0])


def is_above(row, place):
    return is_whole(place) and 0 <= place < len(row) and row[place] > 0


def are_far(row, most, places):
    refuse_length(most)
    for turn in range(len(places)):
        if not is_above(row, places[turn]):
            return False
        if turn > 0 and places[turn] - places[turn - 1] < most:
            return False
    return True


def better_from(row, first, many, best):
    total = 0
    below = 0
    for place in range(first, len(row)):
        total += row[place]
        if row[place] < 0:
            below += 1
        if below > many:
            return best
        # Firsts rise, and beyonds for each, so of equal sums the one met first is due.
        if best is None or total > best[0]:
            best = (total, first, place + 1)
    return best


def best_few_below(row, many):
    if many < 0:
        raise NoCount("so many numbers below nought can't be")
    best = None
    for first in range(len(row)):
        best = better_from(row, first, many, best)
    return best
