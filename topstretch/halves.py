"""A row kept in halves: from these the best stretch of any part of it is told."""

from topstretch.errors import NoPlace, NoStretch
from topstretch.plain import is_stretch, is_whole

# What is known of a part, by its place in a tuple: how many numbers, their sum,
# and the best stretch of all, from the part's beginning, to its end, and over
# its end round to its beginning. Stretches are tuples (sum, first, beyond);
# their places are counted from the part's own beginning, so that what is known
# doesn't hang on where the part stands. What goes round goes from first to the
# end and on to beyond, which isn't behind first; it is None of a single number.
MANY = 0
TOTAL = 1
BEST = 2
HEAD = 3
TAIL = 4
ROUND = 5

# A half, by its place in a tuple: what is known of it, and its own two halves,
# None and None of a single number.
KNOWN = 0
LEFT = 1
RIGHT = 2


def order_of(stretch):
    return (-stretch[0], stretch[1], stretch[2])


def better_of(one, other):
    return min(one, other, key=order_of)


def moved(stretch, places):
    return (stretch[0], stretch[1] + places, stretch[2] + places)


def side_by_side(one, other):
    return (one[0] + other[0], one[1], other[2])


def joined_round(one, other):
    # One of its two ends lies in each part, or both in one of them, and the
    # other part is gone over whole.
    best = side_by_side(moved(other[TAIL], one[MANY]), one[HEAD])
    if one[ROUND] is not None:
        inner = one[ROUND]
        best = better_of(best, (inner[0] + other[TOTAL], inner[1], inner[2]))
    if other[ROUND] is not None:
        inner = moved(other[ROUND], one[MANY])
        best = better_of(best, (inner[0] + one[TOTAL], inner[1], inner[2]))
    return best


def joined(one, other):
    many = one[MANY] + other[MANY]
    one_whole = (one[TOTAL], 0, one[MANY])
    other_whole = (other[TOTAL], one[MANY], many)
    other_head = moved(other[HEAD], one[MANY])
    over = side_by_side(one[TAIL], other_head)
    return (
        many,
        one[TOTAL] + other[TOTAL],
        better_of(better_of(one[BEST], over), moved(other[BEST], one[MANY])),
        better_of(one[HEAD], side_by_side(one_whole, other_head)),
        better_of(side_by_side(one[TAIL], other_whole), moved(other[TAIL], one[MANY])),
        joined_round(one, other),
    )


def single(number):
    stretch = (number, 0, 1)
    return ((1, number, stretch, stretch, stretch, None), None, None)


def paired(left, right):
    return (joined(left[KNOWN], right[KNOWN]), left, right)


def halved(row, first, beyond):
    if beyond - first == 1:
        return single(row[first])
    # Where it is parted hangs on how many numbers there are alone: so the same
    # row is always kept as the same.
    middle = (first + beyond) // 2
    return paired(halved(row, first, middle), halved(row, middle, beyond))


def kept(row):
    return halved(row, 0, len(row))


def many_of(held):
    return held[KNOWN][MANY]


def row_of(held):
    if held[LEFT] is None:
        return [held[KNOWN][TOTAL]]
    return row_of(held[LEFT]) + row_of(held[RIGHT])


def refuse_place(held, place):
    if not is_whole(place) or not 0 <= place < many_of(held):
        raise NoPlace("not a place of the row")


def with_put(held, place, number):
    if held[LEFT] is None:
        return single(number)
    middle = many_of(held[LEFT])
    if place < middle:
        return paired(with_put(held[LEFT], place, number), held[RIGHT])
    return paired(held[LEFT], with_put(held[RIGHT], place - middle, number))


def changed(held, changes):
    now = held
    for change in changes:
        refuse_place(held, change[0])
        now = with_put(now, change[0], change[1])
    return now


def known_of(held, first, beyond):
    if first == 0 and beyond == many_of(held):
        return held[KNOWN]
    middle = many_of(held[LEFT])
    if beyond <= middle:
        return known_of(held[LEFT], first, beyond)
    if first >= middle:
        return known_of(held[RIGHT], first - middle, beyond - middle)
    return joined(known_of(held[LEFT], first, middle), known_of(held[RIGHT], 0, beyond - middle))


def known_of_part(held, stretch):
    if not is_stretch(stretch, many_of(held)):
        raise NoStretch("not a stretch of the row")
    return known_of(held, stretch[0], stretch[1])


def best_in(held, stretch):
    return moved(known_of_part(held, stretch)[BEST], stretch[0])


def sum_in(held, stretch):
    return known_of_part(held, stretch)[TOTAL]


def best_round(held):
    plain = held[KNOWN][BEST]
    best = (plain[0], plain[1], plain[2] - plain[1])
    over = held[KNOWN][ROUND]
    if over is None:
        return best
    # All numbers from a later place on have no more than all from the first one:
    # so that what goes round may come up to where it began does no harm.
    return better_of(best, (over[0], over[1], many_of(held) - over[1] + over[2]))
