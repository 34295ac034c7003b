import unittest

from tests.plain_walk import (
    FAR,
    NUMBER_OF_32_FIGURES,
    all_stretches,
    best_among,
    mixed_row,
    mixed_rows,
    small_rows,
)
from topstretch import errors
from topstretch.plain import best_of, stretch_sum, sums_ahead

ROW = [3, -1, 4, -1, -5, 9]
NO_STRETCHES = [
    (0, 0), (3, 3), (6, 6),
    (2, 1), (6, 0), (1, -1),
    (-1, 1), (-1, 6), (-6, 6), (-2, -1), (-FAR, 3), (-FAR, -1),
    (6, 7), (7, 8), (FAR, FAR + 1), (FAR, 3),
    (0, 7), (5, 7), (0, FAR), (-FAR, FAR),
]


class TestStretchSum(unittest.TestCase):
    def test_one_number(self):
        for place, number in enumerate(ROW):
            self.assertEqual(stretch_sum(ROW, (place, place + 1)), number)

    def test_all(self):
        self.assertEqual(stretch_sum(ROW, (0, 6)), 9)

    def test_from_the_beginning(self):
        self.assertEqual(stretch_sum(ROW, (0, 3)), 6)

    def test_to_the_end(self):
        self.assertEqual(stretch_sum(ROW, (3, 6)), 3)

    def test_any(self):
        for row in mixed_rows(60, 12, 9):
            for total, first, beyond in all_stretches(row):
                self.assertEqual(stretch_sum(row, (first, beyond)), total)

    def test_long_row_of_great_numbers(self):
        row = mixed_row(200, 5, NUMBER_OF_32_FIGURES)
        for first, beyond in [(0, 200), (0, 1), (199, 200), (17, 181)]:
            self.assertEqual(stretch_sum(row, (first, beyond)), sum(row[first:beyond]))

    def test_it_is_a_whole_number(self):
        self.assertIs(type(stretch_sum(ROW, (1, 3))), int)

    def test_refused(self):
        for stretch in NO_STRETCHES:
            with self.subTest(stretch=stretch):
                with self.assertRaises(errors.NoStretch):
                    stretch_sum(ROW, stretch)

    def test_refused_in_a_row_of_one_number(self):
        self.assertEqual(stretch_sum([5], (0, 1)), 5)
        for stretch in [(0, 0), (1, 1), (1, 0), (0, 2), (1, 2), (-1, 0), (-1, 1)]:
            with self.subTest(stretch=stretch):
                with self.assertRaises(errors.NoStretch):
                    stretch_sum([5], stretch)

    def test_refused_by_its_form(self):
        for stretch in [(), (0,), (0, 1, 2), (False, True), (0, True), [0, 1], None]:
            with self.subTest(stretch=stretch):
                with self.assertRaises(errors.NoStretch):
                    stretch_sum(ROW, stretch)

    def test_the_refusal_is_no_other_one(self):
        try:
            stretch_sum(ROW, (3, 3))
        except ValueError as refusal:
            self.assertIsInstance(refusal, errors.TopError)
            self.assertIsInstance(refusal, errors.NoStretch)
            others = (errors.NoLength, errors.NoCount, errors.NoPlace, errors.NoText,
                      errors.NoShape, errors.NoneYet, errors.NoRound)
            self.assertNotIsInstance(refusal, others)
        else:
            self.fail("an empty stretch is refused")


class TestBestOf(unittest.TestCase):
    def check(self, row):
        self.assertEqual(best_of(row), best_among(all_stretches(row)), row)

    def test_small_rows(self):
        for row in small_rows((-2, -1, 0, 1, 2), 5):
            self.check(row)

    def test_small_rows_of_many_ties(self):
        for row in small_rows((-1, 0, 1), 8):
            self.check(row)

    def test_mixed_rows(self):
        for row in mixed_rows(300, 25, 6):
            self.check(row)

    def test_all_below_nought(self):
        self.assertEqual(best_of([-3, -1, -2, -1]), (-1, 1, 2))

    def test_all_nought(self):
        self.assertEqual(best_of([0, 0, 0]), (0, 0, 1))

    def test_noughts_ahead_of_the_best(self):
        self.assertEqual(best_of([-1, 0, 0, 5, -9]), (5, 1, 4))

    def test_noughts_behind_the_best(self):
        self.assertEqual(best_of([-1, 5, 0, 0, -9]), (5, 1, 2))

    def test_a_sum_of_nought_ahead_of_the_best(self):
        self.assertEqual(best_of([2, -2, 5, 0]), (5, 0, 3))

    def test_of_equal_sums_the_least_first(self):
        self.assertEqual(best_of([4, -9, 1, 3, -9, 4]), (4, 0, 1))
        self.assertEqual(best_of([-9, 1, 3, -9, 4]), (4, 1, 3))

    def test_of_equal_firsts_the_shortest(self):
        self.assertEqual(best_of([4, -4, 4, 0]), (4, 0, 1))

    def test_one_number(self):
        for number in [0, 7, -7, NUMBER_OF_32_FIGURES, -NUMBER_OF_32_FIGURES]:
            self.assertEqual(best_of([number]), (number, 0, 1))

    def test_great_numbers(self):
        self.check([FAR, -FAR, FAR, -FAR - 1, FAR, 1])
        self.check([-FAR, -FAR + 1, -FAR])
        for seed in range(40):
            self.check(mixed_row(12, seed, NUMBER_OF_32_FIGURES))

    def test_long_row(self):
        row = mixed_row(2000, 11, NUMBER_OF_32_FIGURES)
        self.check(row)

    def test_long_row_of_ties(self):
        self.check(mixed_row(2000, 12, 1))

    def test_kinds(self):
        for row in [[5], [-1, 0, 2]]:
            best = best_of(row)
            self.assertIs(type(best), tuple)
            self.assertEqual([type(part) for part in best], [int, int, int])


class TestSumsAhead(unittest.TestCase):
    def test_one_more_than_numbers(self):
        self.assertEqual(sums_ahead([3, -1, 4]), [0, 3, 2, 6])
        self.assertEqual(sums_ahead([-8]), [0, -8])
        self.assertEqual(sums_ahead([0, 0]), [0, 0, 0])

    def test_each_is_of_so_many_first_numbers(self):
        rows = list(mixed_rows(60, 20, 9)) + [mixed_row(2000, 3, NUMBER_OF_32_FIGURES)]
        for row in rows:
            self.assertEqual(sums_ahead(row), [sum(row[:many]) for many in range(len(row) + 1)])

    def test_a_stretch_is_the_difference_of_two(self):
        ahead = sums_ahead(ROW)
        for total, first, beyond in all_stretches(ROW):
            self.assertEqual(ahead[beyond] - ahead[first], total)

    def test_the_list_is_the_askers_own(self):
        row = [1, 2]
        told = sums_ahead(row)
        self.assertIs(type(told), list)
        told.append(99)
        told[0] = 50
        again = sums_ahead(row)
        self.assertEqual(again, [0, 1, 3])
        self.assertEqual(row, [1, 2])
        row[0] = 7
        self.assertEqual(again, [0, 1, 3])
        self.assertEqual(sums_ahead(row), [0, 7, 9])


class TestNothingIsChanged(unittest.TestCase):
    def test_the_row_stays_and_the_answer_too(self):
        asked = [
            lambda row: stretch_sum(row, (1, 4)),
            lambda row: stretch_sum(row, (0, len(row))),
            best_of,
            sums_ahead,
        ]
        for ask in asked:
            row = list(ROW)
            told = ask(row)
            self.assertEqual(row, ROW)
            self.assertEqual(ask(row), told)
            self.assertEqual(row, ROW)

    def test_the_row_stays_where_refused(self):
        row = list(ROW)
        for stretch in NO_STRETCHES + NO_STRETCHES:
            self.assertRaises(errors.NoStretch, stretch_sum, row, stretch)
            self.assertEqual(row, ROW)
        self.assertEqual(stretch_sum(row, (0, 3)), 6)

    def test_a_changed_row_is_asked_anew(self):
        row = [1, -5, 3]
        self.assertEqual(best_of(row), (3, 2, 3))
        self.assertEqual(stretch_sum(row, (0, 2)), -4)
        row[0] = 9
        self.assertEqual(best_of(row), (9, 0, 1))
        self.assertEqual(stretch_sum(row, (0, 2)), 4)
