"""Several stretches of a row, a told gap apart: the best ones."""

from topstretch.errors import NoCount


def refuse_counts(many, least, gap):
    if many < least or gap < 0:
        raise NoCount("no such number of stretches, or no such gap")


def room_for(numbers, gap):
    # With one more gap behind the last number each stretch has one of its own.
    return (numbers + gap) // (1 + gap)


def greater_of(one, other):
    # None stands where there isn't room, and is less than any sum.
    if one is None:
        return other
    if other is None:
        return one
    return max(one, other)


def begun_line(row, behind):
    line = [None] * (len(row) + 1)
    for place in range(len(row) - 1, -1, -1):
        # Behind its number here the stretch ends, or goes on as if begun there.
        rest = greater_of(behind[place + 1], line[place + 1])
        if rest is not None:
            line[place] = row[place] + rest
    return line


def best_line(begun):
    line = list(begun)
    for place in range(len(begun) - 2, -1, -1):
        line[place] = greater_of(begun[place], line[place + 1])
    return line


def behind_line(best, gap):
    return best[gap:] + [None] * min(gap, len(best))


def lines_of(row, many, gap):
    # For each count of stretches, by places, the greatest sum: "begun", where
    # the first of them begins there; "best", where none begins ahead of there;
    # "behind", where all stand the gap behind a stretch that ends there.
    nothing = [0] * (len(row) + 1)
    lines = [{"begun": nothing, "best": nothing, "behind": nothing}]
    for count in range(1, many + 1):
        begun = begun_line(row, lines[count - 1]["behind"])
        best = best_line(begun)
        lines.append({"begun": begun, "best": best, "behind": behind_line(best, gap)})
    return lines


def first_from(line, start):
    first = start
    while line["begun"][first] != line["best"][first]:
        first += 1
    return first


def beyond_from(row, first, total, behind):
    beyond = first + 1
    left = total - row[first]
    while behind[beyond] != left:
        left -= row[beyond]
        beyond += 1
    return beyond


def stretches_of(row, lines, many, gap):
    # From the left, each first and each beyond is the least one behind which
    # the greatest sum can still be had: so the whole list is the first such.
    told = []
    start = 0
    for count in range(many, 0, -1):
        first = first_from(lines[count], start)
        total = lines[count]["begun"][first]
        beyond = beyond_from(row, first, total, lines[count - 1]["behind"])
        told.append((first, beyond))
        start = beyond + gap
    return told


def best_apart(row, many, gap):
    refuse_counts(many, 1, gap)
    if many > room_for(len(row), gap):
        return None
    lines = lines_of(row, many, gap)
    return (lines[many]["best"][0], stretches_of(row, lines, many, gap))


def best_at_most(row, many, gap):
    refuse_counts(many, 0, gap)
    counted = min(many, room_for(len(row), gap))
    lines = lines_of(row, counted, gap)
    fewest = 0
    for count in range(1, counted + 1):
        if lines[count]["best"][0] > lines[fewest]["best"][0]:
            fewest = count
    return (lines[fewest]["best"][0], stretches_of(row, lines, fewest, gap))
