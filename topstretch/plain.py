"""Stretches of a row: their sums, and the best one."""

from topstretch.errors import NoStretch


def is_whole(thing):
    # Python counts True and False among its ints; here they are no whole numbers.
    return isinstance(thing, int) and not isinstance(thing, bool)


def is_stretch(stretch, many):
    if not isinstance(stretch, tuple) or len(stretch) != 2:
        return False
    first = stretch[0]
    beyond = stretch[1]
    if not is_whole(first) or not is_whole(beyond):
        return False
    return 0 <= first < beyond <= many


def stretch_sum(row, stretch):
    if not is_stretch(stretch, len(row)):
        raise NoStretch("not a stretch of the row")
    return sum(row[stretch[0]:stretch[1]])


def best_of(row):
    total = row[0]
    first = 0
    best = (total, 0, 1)
    for place in range(1, len(row)):
        # A total of 0 is kept on: it costs nothing and begins further ahead.
        if total < 0:
            total = 0
            first = place
        total += row[place]
        # First and beyond only rise, so of equal sums the one met first is due.
        if total > best[0]:
            best = (total, first, place + 1)
    return best


def sums_ahead(row):
    total = 0
    ahead = [total]
    for number in row:
        total += number
        ahead.append(total)
    return ahead
