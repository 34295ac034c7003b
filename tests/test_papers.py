import unittest
from itertools import product

from tests.plain_walk import (
    FAR,
    NUMBER_OF_32_FIGURES,
    all_apart,
    all_ring_stretches,
    all_stretches,
    mixed_row,
    mixed_rows,
    small_rows,
)
from topstretch import errors
from topstretch.papers import bound_of, paper_of, paper_shows, ring_shows, several_paper, several_shows
from topstretch.plain import best_of
from topstretch.rings import best_ring
from topstretch.several import best_apart

ROW = [3, -1, 4, -1, -5, 9]
GREATER_THAN_ANY = 10 ** 5000
NO_COUNTS = [
    (0, 0), (0, 1), (-1, 0), (-1, 5), (-FAR, 0), (-FAR, FAR), (0, FAR),
    (1, -1), (2, -1), (1, -2), (1, -FAR), (7, -1),
    (0, -1), (-1, -1), (-FAR, -FAR),
]


def with_one(line, place, thing):
    return line[:place] + [thing] + line[place + 1:]


def with_one_of(paper, count, place, thing):
    return with_one(paper, count, with_one(paper[count], place, thing))


def places_of(paper):
    return [(count, place) for count in range(len(paper)) for place in range(len(paper[count]))]


def is_right(row, paper):
    """Point 12 by its words."""
    if len(paper) != len(row):
        return False
    for place, number in enumerate(row):
        if not paper[place] >= number:
            return False
        if place >= 1 and not paper[place] >= number + paper[place - 1]:
            return False
    return True


def is_right_of_several(row, many, gap, paper):
    """Point 13 by its words."""
    numbers = len(row)
    if len(paper) != many + 1 or any(len(line) != numbers + 1 for line in paper):
        return False
    for k, i in places_of(paper):
        room = k == 0 or k + gap * (k - 1) <= i
        if (paper[k][i] is None) == room:
            return False
    for k, i in places_of(paper):
        if paper[k][i] is None:
            continue
        if k == 0 and paper[0][i] < 0:
            return False
        if i >= 1 and paper[k][i - 1] is not None and paper[k][i] < paper[k][i - 1]:
            return False
        for a in range(i if k >= 1 else 0):
            total = sum(row[a:i])
            if k == 1 and paper[k][i] < total:
                return False
            if k > 1 and a >= gap and paper[k - 1][a - gap] is not None:
                if paper[k][i] < total + paper[k - 1][a - gap]:
                    return False
    return True


def least_of_several(row, many, gap):
    """Point 14 by walking all lists of stretches in each of the first numbers."""
    paper = []
    for count in range(many + 1):
        line = []
        for numbers in range(len(row) + 1):
            sums = [one[0] for one in all_apart(row[:numbers], count, gap)]
            line.append(max(sums, default=None))
        paper.append(line)
    return paper


def least_by_places(row, many, gap):
    """Point 14 for longer rows: each number is what point 13's words ask for, no more."""
    paper = [[0] * (len(row) + 1)]
    for k in range(1, many + 1):
        line = [None]
        for i in range(1, len(row) + 1):
            asked = [line[i - 1]] if line[i - 1] is not None else []
            for a in range(i):
                if k == 1:
                    asked.append(sum(row[a:i]))
                elif a >= gap and paper[k - 1][a - gap] is not None:
                    asked.append(sum(row[a:i]) + paper[k - 1][a - gap])
            line.append(max(asked, default=None))
        paper.append(line)
    return paper


def least_of_ring(ring):
    """Point 15: of each length the greatest sum."""
    stretches = list(all_ring_stretches(ring))
    return [max(one[0] for one in stretches if one[2] == many) for many in range(1, len(ring) + 1)]


class TestPaperOfARow(unittest.TestCase):
    def rows(self):
        yield from small_rows((-2, -1, 0, 1, 2), 4)
        yield from mixed_rows(60, 20, 6)
        for seed in range(10):
            yield mixed_row(12, seed, NUMBER_OF_32_FIGURES)

    def check_told(self, row):
        stretches = all_stretches(row)
        most = [None] * len(row)
        for total, _, beyond in stretches:
            if most[beyond - 1] is None or total > most[beyond - 1]:
                most[beyond - 1] = total
        paper = paper_of(row)
        self.assertEqual(paper, most, row)
        self.assertIs(paper_shows(row, paper), True)
        self.assertEqual(bound_of(paper), best_of(row)[0])
        self.assertEqual(bound_of(paper), max(one[0] for one in stretches))

    def test_the_told_one_is_the_least(self):
        for row in self.rows():
            self.check_told(row)

    def test_plainly(self):
        self.assertEqual(paper_of(ROW), [3, 2, 6, 5, 0, 9])
        self.assertEqual(paper_of([-3]), [-3])
        self.assertEqual(paper_of([-3, -2, 0, -1]), [-3, -2, 0, -1])
        self.assertEqual(paper_of([0, 0]), [0, 0])

    def test_long_rows(self):
        self.check_told(mixed_row(600, 61, NUMBER_OF_32_FIGURES))
        self.check_told(mixed_row(600, 62, 2))

    def test_one_less_is_not_let_by(self):
        rows = list(self.rows()) + [mixed_row(600, 63, 9)]
        for row in rows:
            paper = paper_of(row)
            for place in range(len(row)):
                less = with_one(paper, place, paper[place] - 1)
                self.assertIs(paper_shows(row, less), False, (row, less))

    def test_any_small_paper(self):
        for row in small_rows((-1, 0, 2), 3):
            best = best_of(row)[0]
            for paper in product(range(-2, 6), repeat=len(row)):
                paper = list(paper)
                shown = paper_shows(row, paper)
                self.assertIs(shown, is_right(row, paper), (row, paper))
                if shown:
                    self.assertGreaterEqual(bound_of(paper), best)

    def test_greater_numbers(self):
        for row in mixed_rows(40, 15, 6):
            paper = paper_of(row)
            for more in [0, 1, FAR, GREATER_THAN_ANY]:
                self.assertIs(paper_shows(row, [number + more for number in paper]), True)
            last = with_one(paper, len(row) - 1, paper[-1] + FAR)
            self.assertIs(paper_shows(row, last), True)

    def test_a_greater_number_binds_the_one_behind_it(self):
        self.assertIs(paper_shows([1, 1], [1, 2]), True)
        self.assertIs(paper_shows([1, 1], [2, 2]), False)
        self.assertIs(paper_shows([1, 1], [2, 3]), True)
        self.assertIs(paper_shows([-5, 1], [-1, 1]), True)
        self.assertIs(paper_shows([-5, 1], [-1, 0]), False)

    def test_far_less(self):
        self.assertIs(paper_shows([1, 1], [1, -GREATER_THAN_ANY]), False)
        self.assertIs(paper_shows([1, 1], [-GREATER_THAN_ANY, 2]), False)
        self.assertIs(paper_shows([5], [4]), False)
        self.assertIs(paper_shows([5], [5]), True)
        self.assertIs(paper_shows([5], [6]), True)

    def test_of_another_length(self):
        for row in [[5], [-5], ROW, [0, 0]]:
            paper = paper_of(row)
            self.assertIs(paper_shows(row, []), False)
            self.assertIs(paper_shows(row, paper[:-1]), False)
            self.assertIs(paper_shows(row, paper[1:]), False)
            self.assertIs(paper_shows(row, paper + [FAR]), False)
            self.assertIs(paper_shows(row, [FAR] + paper), False)
            self.assertIs(paper_shows(row, paper + paper), False)

    def test_what_is_no_whole_number_is_not_let_by(self):
        self.assertIs(paper_shows([1], [True]), False)
        self.assertIs(paper_shows([1], [None]), False)

    def test_bound(self):
        self.assertEqual(bound_of([3, 2, 6, 5, 0, 9]), 9)
        self.assertEqual(bound_of([-4]), -4)
        self.assertEqual(bound_of([-4, -2, -3]), -2)
        self.assertEqual(bound_of([1, GREATER_THAN_ANY, 2]), GREATER_THAN_ANY)
        self.assertEqual(bound_of([0, -GREATER_THAN_ANY]), 0)

    def test_kinds(self):
        paper = paper_of(ROW)
        self.assertIs(type(paper), list)
        self.assertEqual({type(number) for number in paper}, {int})
        self.assertIs(type(bound_of(paper)), int)


class TestPaperOfSeveral(unittest.TestCase):
    def cases(self):
        for row in small_rows((-1, 0, 2), 4):
            for gap in [0, 1, 2, FAR]:
                for many in [1, 2, 3]:
                    yield row, many, gap
        for row in mixed_rows(16, 6, 5):
            for gap in [0, 1, 2, 4, FAR]:
                for many in [1, 2, 4, 7]:
                    yield row, many, gap
        for seed in range(3):
            row = mixed_row(6, seed, NUMBER_OF_32_FIGURES)
            for many, gap in [(1, 0), (3, 0), (3, 1), (2, 3), (2, FAR)]:
                yield row, many, gap

    def check_bound(self, row, many, gap, paper):
        best = best_apart(row, many, gap)
        self.assertEqual(paper[many][len(row)], None if best is None else best[0])

    def test_the_told_one_is_the_least(self):
        for row, many, gap in self.cases():
            paper = several_paper(row, many, gap)
            self.assertEqual(paper, least_of_several(row, many, gap), (row, many, gap))
            self.assertIs(several_shows(row, many, gap, paper), True)
            self.check_bound(row, many, gap, paper)

    def test_plainly(self):
        self.assertEqual(several_paper([3, -1, 4], 2, 1), [
            [0, 0, 0, 0],
            [None, 3, 3, 6],
            [None, None, None, 7],
        ])
        self.assertEqual(several_paper([-2], 1, 0), [[0, 0], [None, -2]])
        self.assertEqual(several_paper([-2], 2, 0), [[0, 0], [None, -2], [None, None]])
        self.assertEqual(several_paper([1, 1], 2, 0), [[0, 0, 0], [None, 1, 2], [None, None, 2]])

    def test_long_rows(self):
        for spread in [1, NUMBER_OF_32_FIGURES]:
            row = mixed_row(40, 71, spread)
            for many, gap in [(1, 0), (12, 0), (12, 2), (12, 3), (12, 4), (7, 5), (2, 38), (2, 39), (12, FAR)]:
                paper = several_paper(row, many, gap)
                self.assertEqual(paper, least_by_places(row, many, gap), (many, gap))
                self.assertIs(several_shows(row, many, gap, paper), True)
                self.check_bound(row, many, gap, paper)

    def test_none_just_where_there_is_no_room(self):
        row = mixed_row(9, 72, 4)
        for gap in [0, 1, 2, 3, 7, 8, 9, FAR]:
            paper = several_paper(row, 10, gap)
            for k, i in places_of(paper):
                room = k == 0 or k + gap * (k - 1) <= i
                self.assertEqual(paper[k][i] is None, not room, (k, i, gap))

    def test_a_number_one_less_is_not_let_by(self):
        for row, many, gap in self.cases():
            paper = several_paper(row, many, gap)
            for k, i in places_of(paper):
                if paper[k][i] is not None:
                    less = with_one_of(paper, k, i, paper[k][i] - 1)
                    self.assertIs(several_shows(row, many, gap, less), False, (row, many, gap, k, i))

    def test_a_number_where_none_is_due_and_none_where_a_number(self):
        for row, many, gap in self.cases():
            paper = several_paper(row, many, gap)
            for k, i in places_of(paper):
                others = [None] if paper[k][i] is not None else [0, FAR, -FAR, -GREATER_THAN_ANY]
                for other in others:
                    wrong = with_one_of(paper, k, i, other)
                    self.assertIs(several_shows(row, many, gap, wrong), False, (row, many, gap, k, i))

    def test_a_line_more_or_less(self):
        for row, many, gap in self.cases():
            paper = several_paper(row, many, gap)
            more = several_paper(row, many + 1, gap)
            self.assertIs(several_shows(row, many, gap, more), False)
            self.assertIs(several_shows(row, many + 1, gap, paper), False)
            for wrong in [[], paper[:-1], paper[1:], paper + [paper[-1]], [paper[0]] + paper, paper + [[]]]:
                self.assertIs(several_shows(row, many, gap, wrong), False, (row, many, gap, wrong))

    def test_a_number_more_or_less_in_a_line(self):
        for row, many, gap in self.cases():
            paper = several_paper(row, many, gap)
            for k in range(many + 1):
                line = paper[k]
                for wrong in [[], line[:-1], line[1:], line + [line[-1]], line + [FAR], line + [None], [line[0]] + line]:
                    self.assertIs(several_shows(row, many, gap, with_one(paper, k, wrong)), False)

    def test_a_paper_for_another_row_or_gap(self):
        paper = several_paper(ROW, 2, 1)
        self.assertIs(several_shows(ROW, 2, 0, paper), False)
        self.assertIs(several_shows(ROW, 2, 2, paper), False)
        self.assertIs(several_shows(ROW[:-1], 2, 1, paper), False)
        self.assertIs(several_shows(ROW + [0], 2, 1, paper), False)
        self.assertIs(several_shows(with_one(ROW, 5, 10), 2, 1, paper), False)
        self.assertIs(several_shows(with_one(ROW, 5, 8), 2, 1, paper), True)

    def test_greater_numbers_that_are_right(self):
        for row, many, gap in self.cases():
            paper = several_paper(row, many, gap)
            for more in [1, FAR, GREATER_THAN_ANY]:
                greater = [[None if number is None else number + more for number in line] for line in paper]
                self.assertIs(several_shows(row, many, gap, greater), True)
            for k in [0, many]:
                # No line but the next one looks at a line, so the last one is free to rise.
                risen = [None if number is None else number + 5 for number in paper[k]]
                self.assertIs(several_shows(row, many, gap, with_one(paper, k, risen)), True)

    def test_the_first_line_binds_no_other(self):
        self.assertIs(several_shows([1, 1], 1, 0, [[7, 8, 9], [None, 1, 2]]), True)
        self.assertIs(several_shows([1, 1], 1, 0, [[0, 0, 9], [None, 1, 2]]), True)
        self.assertIs(several_shows([1, 1], 1, 0, [[9, 0, 0], [None, 1, 2]]), False)
        self.assertIs(several_shows([1, 1], 1, 0, [[-1, 0, 0], [None, 1, 2]]), False)
        self.assertIs(several_shows([1, 1], 1, 0, [[-1, -1, -1], [None, 1, 2]]), False)

    def test_a_line_that_falls(self):
        self.assertIs(several_shows([1, -9], 1, 0, [[0, 0, 0], [None, 5, 5]]), True)
        self.assertIs(several_shows([1, -9], 1, 0, [[0, 0, 0], [None, 5, 4]]), False)
        self.assertIs(several_shows([-9, -9], 1, 0, [[0, 0, 0], [None, -9, -9]]), True)

    def test_a_greater_number_binds_the_line_behind_it(self):
        paper = several_paper([1, -1, 1], 2, 0)
        self.assertEqual(paper, [[0, 0, 0, 0], [None, 1, 1, 1], [None, None, 0, 2]])
        self.assertIs(several_shows([1, -1, 1], 2, 0, [paper[0], [None, 2, 2, 2], paper[2]]), False)
        self.assertIs(several_shows([1, -1, 1], 2, 0, [paper[0], [None, 2, 2, 2], [None, None, 1, 3]]), True)
        self.assertIs(several_shows([1, -1, 1], 2, 0, [paper[0], [None, 1, 1, 9], paper[2]]), True)

    def changed_papers(self, row, many, gap):
        paper = several_paper(row, many, gap)
        for seed in range(12):
            steps = mixed_row(len(places_of(paper)), seed, 2 if seed % 2 else 1)
            rise = 0
            other = [list(line) for line in paper]
            for turn, (k, i) in enumerate(places_of(paper)):
                if other[k][i] is not None and (turn + seed) % 3 == 0:
                    rise += max(0, steps[turn]) if seed < 8 else steps[turn]
                if other[k][i] is not None:
                    other[k][i] += rise
            yield other

    def test_any_paper_by_the_words(self):
        seen = {True: 0, False: 0}
        for row, many, gap in self.cases():
            for paper in self.changed_papers(row, many, gap):
                shown = several_shows(row, many, gap, paper)
                self.assertIs(shown, is_right_of_several(row, many, gap, paper), (row, many, gap, paper))
                seen[shown] += 1
                best = best_apart(row, many, gap)
                if shown and best is not None:
                    self.assertGreaterEqual(paper[many][len(row)], best[0])
        self.assertGreater(seen[True], 100)
        self.assertGreater(seen[False], 100)

    def test_all_small_papers_by_the_words(self):
        things = [None, -1, 0, 1, 2]
        for row in [[1], [-1]]:
            for four in product(things, repeat=4):
                paper = [list(four[:2]), list(four[2:])]
                self.assertIs(several_shows(row, 1, 0, paper), is_right_of_several(row, 1, 0, paper), (row, paper))
        for six in product(things, repeat=6):
            paper = [[0, 0, 0], list(six[:3]), list(six[3:])]
            shown = several_shows([1, -1], 2, 0, paper)
            self.assertIs(shown, is_right_of_several([1, -1], 2, 0, paper), paper)

    def test_great_gaps(self):
        for gap in [5, FAR, 10 ** 30 - 1]:
            paper = [[0] * 7, [None, 3, 3, 6, 6, 6, 9], [None] * 7]
            self.assertEqual(several_paper(ROW, 2, gap), paper)
            self.assertIs(several_shows(ROW, 2, gap, paper), True)
            self.assertIs(several_shows(ROW, 2, gap, with_one_of(paper, 2, 6, 12)), False)
            self.assertIs(several_shows(ROW, 2, gap, with_one_of(paper, 1, 6, 8)), False)
        self.assertEqual(several_paper(ROW, 2, 4)[2], [None] * 6 + [12])

    def test_lines_of_another_kind_are_not_let_by(self):
        paper = several_paper([1, 1], 1, 0)
        for wrong in [[None, paper[1]], [paper[0], None], [None, None], [paper[0], (None, 1, 2)]]:
            self.assertIs(several_shows([1, 1], 1, 0, wrong), False)
        self.assertIs(several_shows([1, 1], 1, 0, [[False, 0, 0], paper[1]]), False)
        self.assertIs(several_shows([1, 1], 1, 0, [paper[0], [None, True, 2]]), False)

    def test_a_great_count_of_a_short_paper(self):
        self.assertIs(several_shows(ROW, FAR, 0, several_paper(ROW, 2, 0)), False)
        self.assertIs(several_shows(ROW, FAR, FAR, []), False)

    def test_kinds(self):
        paper = several_paper(ROW, 2, 1)
        self.assertIs(type(paper), list)
        self.assertEqual([type(line) for line in paper], [list] * 3)
        self.assertEqual({type(paper[k][i]) for k, i in places_of(paper)}, {int, type(None)})

    def test_refused(self):
        for many, gap in NO_COUNTS:
            for row in [ROW, [5]]:
                with self.subTest(many=many, gap=gap, row=row):
                    with self.assertRaises(errors.TopError) as taken:
                        several_paper(row, many, gap)
                    self.assertIs(type(taken.exception), errors.NoCount)
                    for paper in [[], [[0] * (len(row) + 1)], several_paper(row, 1, 0)]:
                        with self.assertRaises(errors.TopError) as taken:
                            several_shows(row, many, gap, paper)
                        self.assertIs(type(taken.exception), errors.NoCount)


class TestPaperOfARing(unittest.TestCase):
    def rings(self):
        yield from small_rows((-2, -1, 0, 1, 2), 4)
        yield from mixed_rows(40, 12, 6)
        for seed in range(6):
            yield mixed_row(8, seed, NUMBER_OF_32_FIGURES)
        yield mixed_row(30, 81, NUMBER_OF_32_FIGURES)
        yield mixed_row(30, 82, 1)

    def test_the_least_one_is_let_by(self):
        for ring in self.rings():
            paper = least_of_ring(ring)
            self.assertIs(ring_shows(ring, paper), True, ring)
            self.assertEqual(bound_of(paper), best_ring(ring)[0])

    def test_one_less_at_one_length_is_not(self):
        for ring in self.rings():
            paper = least_of_ring(ring)
            for place in range(len(ring)):
                for less in [1, FAR, GREATER_THAN_ANY]:
                    wrong = with_one(paper, place, paper[place] - less)
                    self.assertIs(ring_shows(ring, wrong), False, (ring, wrong))

    def test_greater_ones(self):
        for ring in self.rings():
            paper = least_of_ring(ring)
            for place in range(len(ring)):
                for more in [1, FAR, GREATER_THAN_ANY]:
                    self.assertIs(ring_shows(ring, with_one(paper, place, paper[place] + more)), True)
            self.assertIs(ring_shows(ring, [number + FAR for number in paper]), True)

    def test_over_the_end(self):
        self.assertEqual(least_of_ring([4, -9, 4]), [4, 8, -1])
        self.assertIs(ring_shows([4, -9, 4], [4, 8, -1]), True)
        self.assertIs(ring_shows([4, -9, 4], [4, 7, -1]), False)
        self.assertIs(ring_shows([4, -9, 4], [4, -5, -1]), False)

    def test_any_small_paper(self):
        for ring in small_rows((-1, 0, 2), 3):
            least = least_of_ring(ring)
            for paper in product(range(-4, 7), repeat=len(ring)):
                right = all(one >= due for one, due in zip(paper, least))
                self.assertIs(ring_shows(ring, list(paper)), right, (ring, paper))
                if right:
                    self.assertGreaterEqual(bound_of(list(paper)), best_ring(ring)[0])

    def test_of_another_length(self):
        for ring in [[5], [-5], ROW, [0, 0]]:
            paper = least_of_ring(ring)
            self.assertIs(ring_shows(ring, []), False)
            self.assertIs(ring_shows(ring, paper[:-1]), False)
            self.assertIs(ring_shows(ring, [FAR] * (len(ring) - 1)), False)
            self.assertIs(ring_shows(ring, paper + [FAR]), False)
            self.assertIs(ring_shows(ring, [FAR] * (len(ring) + 1)), False)

    def test_what_is_no_whole_number_is_not_let_by(self):
        self.assertIs(ring_shows([1], [True]), False)
        self.assertIs(ring_shows([1], [None]), False)


class TestNothingIsChanged(unittest.TestCase):
    def test_what_is_handed_in_stays_and_the_answer_too(self):
        asked = [
            (paper_shows, (), paper_of(ROW)),
            (paper_shows, (), [0] * 6),
            (ring_shows, (), least_of_ring(ROW)),
            (ring_shows, (), [0] * 6),
            (several_shows, (2, 1), several_paper(ROW, 2, 1)),
            (several_shows, (2, 1), [[0] * 7, [None] * 7, [None] * 7]),
        ]
        for ask, between, paper in asked:
            row = list(ROW)
            copied = [list(line) if isinstance(line, list) else line for line in paper]
            told = ask(row, *between, paper)
            self.assertEqual((row, paper), (ROW, copied))
            self.assertIs(ask(row, *between, paper), told)
            self.assertEqual((row, paper), (ROW, copied))

    def test_a_bound_leaves_its_paper(self):
        paper = [3, 9, 1]
        self.assertEqual(bound_of(paper), 9)
        self.assertEqual(paper, [3, 9, 1])
        paper[1] = 2
        self.assertEqual(bound_of(paper), 3)

    def test_what_is_handed_in_stays_where_refused(self):
        row = list(ROW)
        paper = several_paper(ROW, 2, 1)
        for many, gap in NO_COUNTS:
            self.assertRaises(errors.NoCount, several_paper, row, many, gap)
            self.assertRaises(errors.NoCount, several_shows, row, many, gap, paper)
            self.assertEqual(row, ROW)
            self.assertEqual(paper, several_paper(ROW, 2, 1))

    def test_a_papers_list_is_the_askers_own(self):
        row = list(ROW)
        told = paper_of(row)
        self.assertEqual(row, ROW)
        told[0] = 99
        told.append(5)
        self.assertEqual(row, ROW)
        again = paper_of(row)
        self.assertEqual(again, [3, 2, 6, 5, 0, 9])
        row[0] = 50
        self.assertEqual(again, [3, 2, 6, 5, 0, 9])
        self.assertEqual(paper_of(row)[0], 50)

    def test_the_lines_of_several_are_the_askers_own(self):
        for many, gap in [(1, 0), (2, 0), (2, 1), (3, FAR)]:
            row = list(ROW)
            told = several_paper(row, many, gap)
            due = least_of_several(ROW, many, gap)
            self.assertEqual(row, ROW)
            for k in range(many + 1):
                told[k][0] = 77
                told[k].append(k)
                others = [told[other] for other in range(k + 1, many + 1)]
                self.assertEqual(others, due[k + 1:])
            told.append([])
            self.assertEqual(row, ROW)
            again = several_paper(row, many, gap)
            self.assertEqual(again, due)
            row[0] = 50
            self.assertEqual(again, due)
