import unittest

from tests.plain_walk import (
    FAR,
    NUMBER_OF_32_FIGURES,
    all_apart,
    best_of_lists,
    flat,
    mixed_row,
    mixed_rows,
    small_rows,
)
from topstretch import errors
from topstretch.plain import best_of, stretch_sum
from topstretch.several import best_apart, best_at_most

ROW = [3, -1, 4, -1, -5, 9]
GAPS = [0, 1, 2, 3, FAR]
NO_COUNTS_OF_JUST = [
    (0, 0), (0, 1), (-1, 0), (-1, 5), (-FAR, 0), (-FAR, FAR), (0, FAR),
    (1, -1), (2, -1), (1, -2), (1, -FAR), (FAR, -1), (FAR, -FAR), (7, -1),
    (0, -1), (-1, -1), (-FAR, -FAR),
]
NO_COUNTS_OF_AT_MOST = [
    (-1, 0), (-1, 5), (-2, 0), (-FAR, 0), (-FAR, FAR),
    (0, -1), (1, -1), (2, -1), (0, -FAR), (1, -FAR), (FAR, -1), (FAR, -FAR),
    (-1, -1), (-FAR, -FAR),
]


def room_by_placing(numbers, gap):
    """How many stretches of one number fit, set one behind the other from the left."""
    many = 0
    place = 0
    while place < numbers:
        many += 1
        place += 1 + gap
    return many


def best_by_ends(row, many, gap):
    """The best list for rows too long to walk all lists: of each rest the best alone is kept.

    Whatever stands ahead of a rest, a better rest makes a better list.
    """
    beyond_all = len(row)
    rests = [(0, ())] * (beyond_all + 1)
    for count in range(many):
        begun = [None] * (beyond_all + 1)
        for first in range(beyond_all - 1, -1, -1):
            total = 0
            ways = [begun[first + 1]] if begun[first + 1] is not None else []
            for beyond in range(first + 1, beyond_all + 1):
                total += row[beyond - 1]
                start = beyond if count == 0 else beyond + gap
                if start <= beyond_all and rests[start] is not None:
                    ways.append((rests[start][0] - total, (first, beyond) + rests[start][1]))
            begun[first] = min(ways, default=None)
        rests = begun
    if rests[0] is None:
        return None
    places = rests[0][1]
    return (-rests[0][0], list(zip(places[::2], places[1::2])))


class TestBestApart(unittest.TestCase):
    def check(self, row, many, gap):
        plain = best_of_lists(all_apart(row, many, gap))
        self.assertEqual(best_apart(row, many, gap), plain, (row, many, gap))

    def test_small_rows(self):
        for row in small_rows((-1, 0, 1), 5):
            for gap in GAPS:
                for many in range(1, room_by_placing(len(row), gap) + 2):
                    self.check(row, many, gap)

    def test_rows_of_many_kinds_of_numbers(self):
        for row in small_rows((-3, -1, 0, 2), 4):
            for gap in [0, 1, 2]:
                for many in [1, 2, 3]:
                    self.check(row, many, gap)

    def test_mixed_rows(self):
        for row in mixed_rows(48, 8, 4):
            for gap in GAPS:
                for many in range(1, room_by_placing(len(row), gap) + 2):
                    self.check(row, many, gap)

    def test_longer_mixed_rows_of_few_stretches(self):
        for seed in range(6):
            for spread in [1, 5]:
                row = mixed_row(13, seed, spread)
                for many, gap in [(2, 0), (2, 3), (3, 1), (3, 4), (2, 11), (2, 12)]:
                    self.check(row, many, gap)

    def test_plainly(self):
        self.assertEqual(best_apart(ROW, 1, 0), (9, [(0, 6)]))
        self.assertEqual(best_apart(ROW, 2, 0), (15, [(0, 3), (5, 6)]))
        self.assertEqual(best_apart(ROW, 2, 2), (15, [(0, 3), (5, 6)]))
        self.assertEqual(best_apart(ROW, 2, 3), (12, [(0, 1), (5, 6)]))
        self.assertEqual(best_apart(ROW, 2, 4), (12, [(0, 1), (5, 6)]))

    def test_one_is_the_best_of_the_row(self):
        for row in mixed_rows(60, 20, 5):
            total, first, beyond = best_of(row)
            for gap in GAPS:
                self.assertEqual(best_apart(row, 1, gap), (total, [(first, beyond)]))

    def test_side_by_side_with_no_gap(self):
        self.assertEqual(best_apart([5, 5], 2, 0), (10, [(0, 1), (1, 2)]))
        self.assertEqual(best_apart([5, 5, 5], 2, 0), (15, [(0, 1), (1, 3)]))

    def test_as_many_as_have_room(self):
        self.assertEqual(best_apart([1, -2, 3], 3, 0), (2, [(0, 1), (1, 2), (2, 3)]))
        self.assertEqual(best_apart([1, -2, 3], 2, 1), (4, [(0, 1), (2, 3)]))
        self.assertEqual(best_apart([-1, 9, 9, -1], 2, 2), (-2, [(0, 1), (3, 4)]))

    def test_equal_sums(self):
        self.assertEqual(best_apart([0, 0, 0, 0], 2, 0), (0, [(0, 1), (1, 2)]))
        self.assertEqual(best_apart([0, 0, 0, 0], 2, 1), (0, [(0, 1), (2, 3)]))
        self.assertEqual(best_apart([2, -2, 2, 0], 2, 0), (4, [(0, 1), (2, 3)]))
        self.assertEqual(best_apart([0, 3, 0, -5, 0, 3, 0], 2, 0), (6, [(0, 2), (4, 6)]))

    def test_numbers_below_nought(self):
        self.assertEqual(best_apart([-1, -2, -3, -1], 2, 0), (-2, [(0, 1), (3, 4)]))
        self.assertEqual(best_apart([-5, -1, -1, -5], 2, 1), (-6, [(0, 1), (2, 3)]))
        self.assertEqual(best_apart([-4], 1, 0), (-4, [(0, 1)]))

    def test_great_numbers(self):
        for seed in range(8):
            row = mixed_row(7, seed, NUMBER_OF_32_FIGURES)
            for many, gap in [(1, 0), (2, 0), (2, 1), (3, 1), (4, 1), (5, 1), (7, 0), (2, 5), (2, 6)]:
                self.check(row, many, gap)

    def test_none_just_where_there_is_no_room(self):
        for numbers in range(1, 10):
            row = mixed_row(numbers, numbers, 5)
            for gap in list(range(11)) + [FAR]:
                room = room_by_placing(numbers, gap)
                for many in range(1, 12):
                    told = best_apart(row, many, gap)
                    self.assertEqual(told is None, many > room, (row, many, gap))

    def test_none_of_great_counts_and_gaps(self):
        for many, gap in [(FAR, 0), (FAR, 1), (FAR, FAR), (2, FAR), (7, 0), (2, 5), (3, FAR), (10 ** 30 - 1, 10 ** 30 - 1)]:
            self.assertIsNone(best_apart(ROW, many, gap))
        for gap in [0, 5, FAR, 10 ** 30 - 1]:
            self.assertEqual(best_apart(ROW, 1, gap), (9, [(0, 6)]))

    def test_the_longer_walk_is_right(self):
        for row in mixed_rows(24, 8, 2):
            for gap in [0, 1, 3, FAR]:
                for many in [1, 2, 3, 4]:
                    plain = best_of_lists(all_apart(row, many, gap))
                    self.assertEqual(best_by_ends(row, many, gap), plain)

    def test_long_rows(self):
        for spread in [1, 9, NUMBER_OF_32_FIGURES]:
            row = mixed_row(160, 41, spread)
            for many, gap in [(2, 0), (5, 3), (12, 0), (40, 1), (40, 3), (27, 5), (2, 158), (2, 159), (28, 5)]:
                self.assertEqual(best_apart(row, many, gap), best_by_ends(row, many, gap), (many, gap))

    def test_a_long_row_full_of_stretches(self):
        row = mixed_row(40, 42, 3)
        self.assertEqual(best_apart(row, 40, 0), (sum(row), [(place, place + 1) for place in range(40)]))
        self.assertIsNone(best_apart(row, 41, 0))

    def test_they_are_of_the_kind_that_is_asked(self):
        row = mixed_row(160, 43, 9)
        for many, gap in [(1, 0), (7, 0), (7, 4), (40, 2)]:
            total, stretches = best_apart(row, many, gap)
            self.assertEqual(len(stretches), many)
            self.assertEqual(sum(stretch_sum(row, stretch) for stretch in stretches), total)
            for one, other in zip(stretches, stretches[1:]):
                self.assertGreaterEqual(other[0] - one[1], gap)

    def test_kinds(self):
        told = best_apart(ROW, 2, 1)
        self.assertIs(type(told), tuple)
        self.assertEqual([type(part) for part in told], [int, list])
        self.assertEqual({type(stretch) for stretch in told[1]}, {tuple})
        self.assertEqual({type(place) for place in flat(told[1])}, {int})

    def test_refused(self):
        for many, gap in NO_COUNTS_OF_JUST:
            for row in [ROW, [5], [-5, -5]]:
                with self.subTest(many=many, gap=gap, row=row):
                    with self.assertRaises(errors.TopError) as taken:
                        best_apart(row, many, gap)
                    self.assertIs(type(taken.exception), errors.NoCount)


class TestBestAtMost(unittest.TestCase):
    def check(self, row, many, gap):
        lists = []
        for count in range(min(many, len(row)) + 1):
            lists.extend(all_apart(row, count, gap))
        plain = min(lists, key=lambda one: (-one[0], len(one[1]), flat(one[1])))
        self.assertEqual(best_at_most(row, many, gap), plain, (row, many, gap))

    def test_small_rows(self):
        for row in small_rows((-1, 0, 1), 5):
            for gap in GAPS:
                for many in [0, 1, 2, 3, FAR]:
                    self.check(row, many, gap)

    def test_rows_of_many_kinds_of_numbers(self):
        for row in small_rows((-3, -1, 0, 2), 4):
            for gap in [0, 1, 2]:
                for many in [0, 1, 2, 3, 4, 5]:
                    self.check(row, many, gap)

    def test_mixed_rows(self):
        for row in mixed_rows(32, 8, 4):
            for gap in GAPS:
                for many in [0, 1, 2, 3, len(row), len(row) + 1, FAR]:
                    self.check(row, many, gap)

    def test_great_numbers(self):
        for seed in range(6):
            row = mixed_row(7, seed, NUMBER_OF_32_FIGURES)
            for many, gap in [(0, 0), (1, 0), (2, 1), (3, 1), (FAR, 0), (FAR, FAR), (2, 2)]:
                self.check(row, many, gap)

    def test_none_at_all(self):
        for row in [ROW, [5], [-5], [0]]:
            for gap in GAPS:
                self.assertEqual(best_at_most(row, 0, gap), (0, []))

    def test_nought_is_most(self):
        for row in [[-1], [0], [-1, 0, -1], [0, 0], [-3, -2]]:
            for many in [0, 1, 2, FAR]:
                self.assertEqual(best_at_most(row, many, 0), (0, []))

    def test_as_few_as_can_be(self):
        self.assertEqual(best_at_most([5, 5], 2, 0), (10, [(0, 2)]))
        self.assertEqual(best_at_most([5, 0, 5], 3, 0), (10, [(0, 3)]))
        self.assertEqual(best_at_most([5, -1, 5], 3, 0), (10, [(0, 1), (2, 3)]))
        self.assertEqual(best_at_most([5, -1, 5], 3, 1), (10, [(0, 1), (2, 3)]))
        self.assertEqual(best_at_most([5, -1, 5], 3, 2), (9, [(0, 3)]))
        self.assertEqual(best_at_most([5, -1, 5], 1, 0), (9, [(0, 3)]))

    def test_of_as_few_the_first(self):
        self.assertEqual(best_at_most([2, -9, 2, -9, 2], 2, 0), (4, [(0, 1), (2, 3)]))
        self.assertEqual(best_at_most([0, 2, 0], 2, 0), (2, [(0, 2)]))

    def test_more_asked_than_have_room(self):
        for many in [3, 4, 7, FAR, 10 ** 30 - 1]:
            self.assertEqual(best_at_most(ROW, many, 0), (16, [(0, 1), (2, 3), (5, 6)]))
            self.assertEqual(best_at_most(ROW, many, 1), (16, [(0, 1), (2, 3), (5, 6)]))
            self.assertEqual(best_at_most(ROW, many, 2), (15, [(0, 3), (5, 6)]))
            self.assertEqual(best_at_most(ROW, many, FAR), (9, [(0, 6)]))

    def test_a_count_between_may_have_less(self):
        # Three have room only where none of the great ones stand.
        self.assertEqual(best_at_most([-9, 8, -9, 8, -9], 3, 1), (16, [(1, 2), (3, 4)]))

    def test_long_rows(self):
        for spread in [1, 9, NUMBER_OF_32_FIGURES]:
            row = mixed_row(40, 51, spread)
            for many, gap in [(0, 0), (3, 2), (20, 1), (40, 0), (FAR, 0), (FAR, 4), (2, FAR)]:
                ways = [(0, [])]
                for count in range(1, min(many, 40) + 1):
                    way = best_by_ends(row, count, gap)
                    if way is not None:
                        ways.append(way)
                plain = min(ways, key=lambda one: (-one[0], len(one[1]), flat(one[1])))
                self.assertEqual(best_at_most(row, many, gap), plain, (many, gap))

    def test_kinds(self):
        for told in [best_at_most(ROW, 2, 1), best_at_most(ROW, 0, 0), best_at_most([-1], 3, 0)]:
            self.assertIs(type(told), tuple)
            self.assertEqual([type(part) for part in told], [int, list])
            self.assertLessEqual({type(stretch) for stretch in told[1]}, {tuple})

    def test_refused(self):
        for many, gap in NO_COUNTS_OF_AT_MOST:
            for row in [ROW, [5], [-5, -5]]:
                with self.subTest(many=many, gap=gap, row=row):
                    with self.assertRaises(errors.TopError) as taken:
                        best_at_most(row, many, gap)
                    self.assertIs(type(taken.exception), errors.NoCount)


class TestNothingIsChanged(unittest.TestCase):
    def test_the_row_stays_and_the_answer_too(self):
        for ask in [best_apart, best_at_most]:
            for many in [1, 2, 3, 7, FAR]:
                for gap in GAPS:
                    row = list(ROW)
                    told = ask(row, many, gap)
                    self.assertEqual(row, ROW)
                    self.assertEqual(ask(row, many, gap), told)
                    self.assertEqual(row, ROW)

    def test_the_row_stays_where_refused(self):
        for ask, refused in [(best_apart, NO_COUNTS_OF_JUST), (best_at_most, NO_COUNTS_OF_AT_MOST)]:
            row = list(ROW)
            for many, gap in refused:
                self.assertRaises(errors.NoCount, ask, row, many, gap)
                self.assertEqual(row, ROW)
            self.assertEqual(ask(row, 2, 0), (15, [(0, 3), (5, 6)]))

    def test_the_list_is_the_askers_own(self):
        for ask in [best_apart, best_at_most]:
            row = list(ROW)
            told = ask(row, 2, 0)
            told[1].append((7, 8))
            told[1][0] = (1, 1)
            self.assertEqual(row, ROW)
            again = ask(row, 2, 0)
            self.assertEqual(again, (15, [(0, 3), (5, 6)]))
            row[0] = -50
            self.assertEqual(again, (15, [(0, 3), (5, 6)]))
            self.assertEqual(ask(row, 2, 0), (13, [(2, 3), (5, 6)]))

    def test_the_empty_list_is_the_askers_own(self):
        told = best_at_most([-1], 1, 0)
        told[1].append((0, 1))
        self.assertEqual(best_at_most([-1], 1, 0), (0, []))
