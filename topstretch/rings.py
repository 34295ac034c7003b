"""Stretches of a ring: their sums, and the best one, of any or of told lengths."""

from topstretch.errors import NoStretch
from topstretch.plain import is_whole
from topstretch.sized import best_sized, longest_of


def is_ring_stretch(first, many, numbers):
    if not is_whole(first) or not is_whole(many):
        return False
    return 0 <= first < numbers and 1 <= many <= numbers


def unrolled(ring):
    # A row in which each stretch of the ring stands in one piece: the last one
    # to begin, of all numbers, goes over the end by all but one.
    return ring + ring[:-1]


def ring_sum(ring, first, many):
    if not is_ring_stretch(first, many, len(ring)):
        raise NoStretch("not a stretch of the ring")
    return sum(unrolled(ring)[first:first + many])


def best_ring_sized(ring, least, most):
    longest = longest_of(len(ring), least, most)
    # What begins behind the ring's end stands one round ahead, too, with the
    # same sum and a lesser first: so it is never the one that is told.
    best = best_sized(unrolled(ring), least, longest)
    return (best[0], best[1], best[2] - best[1])


def best_ring(ring):
    return best_ring_sized(ring, 1, len(ring))
