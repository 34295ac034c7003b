"""Papers: numbers that show that no stretch, or no several, have more than a bound."""

from topstretch.plain import is_whole, sums_ahead
from topstretch.rings import best_ring_sized
from topstretch.several import lines_of, refuse_counts, room_for


def paper_of(row):
    paper = [row[0]]
    for place in range(1, len(row)):
        paper.append(row[place] + max(0, paper[place - 1]))
    return paper


def are_whole(paper, many):
    return len(paper) == many and all([is_whole(number) for number in paper])


def paper_shows(row, paper):
    if not are_whole(paper, len(row)):
        return False
    for place in range(len(row)):
        if paper[place] < row[place]:
            return False
        if place > 0 and paper[place] < row[place] + paper[place - 1]:
            return False
    return True


def bound_of(paper):
    return max(paper)


def several_paper(row, many, gap):
    refuse_counts(many, 1, gap)
    # The lines look from a place to the row's end; turned about, row and lines
    # look from a place to the row's beginning, as a paper does.
    lines = lines_of(row[::-1], many, gap)
    return [line["best"][::-1] for line in lines]


def is_line_of_form(line, numbers, count, gap):
    if not isinstance(line, list) or len(line) != numbers + 1:
        return False
    for many in range(numbers + 1):
        if count > room_for(many, gap):
            if line[many] is not None:
                return False
        elif not is_whole(line[many]):
            return False
    return True


def is_of_form(paper, numbers, many, gap):
    if len(paper) != many + 1:
        return False
    for count in range(many + 1):
        if not is_line_of_form(paper[count], numbers, count, gap):
            return False
    return True


def never_falls(line):
    for place in range(1, len(line)):
        if line[place - 1] is not None and line[place] < line[place - 1]:
            return False
    return True


def ahead_line(paper, count, gap):
    # By the first of a stretch: what the paper has of the ones ahead of it.
    if count == 1:
        # A single stretch has none ahead, so no gap either.
        return [0] * len(paper[0])
    fewer = paper[count - 1]
    return [fewer[first - gap] if first >= gap else None for first in range(len(fewer))]


def line_shows(line, sums, ahead):
    for beyond in range(1, len(line)):
        for first in range(beyond):
            if ahead[first] is not None and line[beyond] < sums[beyond] - sums[first] + ahead[first]:
                return False
    return True


def several_shows(row, many, gap, paper):
    refuse_counts(many, 1, gap)
    if not is_of_form(paper, len(row), many, gap):
        return False
    if min(paper[0]) < 0 or not never_falls(paper[0]):
        return False
    sums = sums_ahead(row)
    for count in range(1, many + 1):
        if not never_falls(paper[count]):
            return False
        if not line_shows(paper[count], sums, ahead_line(paper, count, gap)):
            return False
    return True


def ring_shows(ring, paper):
    if not are_whole(paper, len(ring)):
        return False
    for many in range(1, len(ring) + 1):
        if paper[many - 1] < best_ring_sized(ring, many, many)[0]:
            return False
    return True
