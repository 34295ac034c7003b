"""What a number must be that some best stretch has it, and which places the best ones have."""

from topstretch.halves import BEST, HEAD, TAIL, known_of, many_of, refuse_place, row_of
from topstretch.papers import bound_of, paper_of


def must_be(held, place):
    refuse_place(held, place)
    many = many_of(held)
    without = []
    # What the numbers beside the place bring at most to a stretch that has it.
    beside = 0
    if place > 0:
        left = known_of(held, 0, place)
        without.append(left[BEST][0])
        beside += max(0, left[TAIL][0])
    if place + 1 < many:
        right = known_of(held, place + 1, many)
        without.append(right[BEST][0])
        beside += max(0, right[HEAD][0])
    if not without:
        return None
    return max(without) - beside


def places_in_best(held):
    row = row_of(held)
    # The told paper has, by places, the best sum of a stretch that ends there;
    # that of the row turned about, of one that begins there.
    ending = paper_of(row)
    begun = paper_of(row[::-1])[::-1]
    most = bound_of(ending)
    return [place for place in range(len(row)) if ending[place] + begun[place] - row[place] == most]
