import unittest

from tests.plain_walk import (
    FAR,
    NUMBER_OF_32_FIGURES,
    all_lengths,
    all_stretches,
    best_among,
    mixed_row,
    mixed_rows,
    small_rows,
)
from topstretch import errors
from topstretch.plain import best_of
from topstretch.sized import best_sized, how_many_above, how_many_just

ROW = [3, -1, 4, -1, -5, 9]
NO_LENGTHS = [
    (0, 1), (0, 0), (0, 6), (-1, 6), (-1, -1), (-FAR, 6), (-FAR, FAR), (0, FAR),
    (2, 1), (6, 5), (1, 0), (1, -1), (3, -FAR), (1, -FAR),
    (7, 7), (7, 8), (7, FAR), (FAR, FAR), (FAR, FAR + 1), (7, 6), (FAR, 6),
]


class RefusesLengths(unittest.TestCase):
    def check_refused(self, ask):
        for least, most in NO_LENGTHS:
            with self.subTest(least=least, most=most):
                with self.assertRaises(errors.NoLength) as taken:
                    ask(ROW, least, most)
                self.assertIsInstance(taken.exception, errors.TopError)
                self.assertNotIsInstance(taken.exception, (errors.NoStretch, errors.NoCount))

    def check_refused_in_a_row_of_one(self, ask):
        for least, most in [(0, 1), (1, 0), (2, 2), (2, FAR), (-1, 1)]:
            with self.subTest(least=least, most=most):
                self.assertRaises(errors.NoLength, ask, [5], least, most)


class TestBestSized(RefusesLengths):
    def check(self, row, least, most):
        plain = best_among(all_stretches(row, least, most))
        self.assertEqual(best_sized(row, least, most), plain, (row, least, most))

    def test_small_rows(self):
        for row in small_rows((-1, 0, 1), 6):
            for least, most in all_lengths(row):
                self.check(row, least, most)

    def test_mixed_rows(self):
        for row in mixed_rows(120, 12, 7):
            for least, most in all_lengths(row):
                self.check(row, least, most)

    def test_least_and_most_alike(self):
        self.assertEqual(best_sized(ROW, 1, 1), (9, 5, 6))
        self.assertEqual(best_sized(ROW, 3, 3), (6, 0, 3))
        self.assertEqual(best_sized(ROW, 6, 6), (9, 0, 6))

    def test_one_and_all_is_the_best_of_any(self):
        for row in mixed_rows(100, 20, 5):
            self.assertEqual(best_sized(row, 1, len(row)), best_of(row))

    def test_most_above_how_many_there_are(self):
        for most in [6, 7, 8, FAR]:
            self.assertEqual(best_sized(ROW, 2, most), (9, 0, 6))
            self.assertEqual(best_sized(ROW, 6, most), (9, 0, 6))

    def test_equal_sums(self):
        self.assertEqual(best_sized([0, 0, 0, 0], 2, 3), (0, 0, 2))
        self.assertEqual(best_sized([-9, 2, 2, 0, -9, 4, 0], 2, 3), (4, 1, 3))
        self.assertEqual(best_sized([5, -5, 5, 0, 0], 2, 4), (5, 0, 3))
        self.assertEqual(best_sized([1, 1, -1, 1, 1], 2, 2), (2, 0, 2))

    def test_a_lesser_sum_where_lengths_bar_the_greater(self):
        self.assertEqual(best_sized([5, 5, 5], 1, 2), (10, 0, 2))
        self.assertEqual(best_sized([-5, 9, -5], 2, 2), (4, 0, 2))

    def test_all_below_nought(self):
        self.assertEqual(best_sized([-3, -1, -2, -1], 2, 4), (-3, 1, 3))

    def test_one_number(self):
        for most in [1, 2, FAR]:
            self.assertEqual(best_sized([-4], 1, most), (-4, 0, 1))

    def test_great_numbers(self):
        for seed in range(20):
            row = mixed_row(9, seed, NUMBER_OF_32_FIGURES)
            for least, most in all_lengths(row):
                self.check(row, least, most)

    def test_long_rows(self):
        row = mixed_row(2000, 21, NUMBER_OF_32_FIGURES)
        ties = mixed_row(2000, 22, 1)
        for least, most in [(1, 2000), (50, 60), (1000, FAR), (2000, 2000)]:
            self.check(row, least, most)
            self.check(ties, least, most)

    def test_kinds(self):
        best = best_sized(ROW, 2, 3)
        self.assertIs(type(best), tuple)
        self.assertEqual([type(part) for part in best], [int, int, int])

    def test_refused(self):
        self.check_refused(best_sized)
        self.check_refused_in_a_row_of_one(best_sized)


class TestHowMany(RefusesLengths):
    def check(self, row, least, most, told):
        sums = [one[0] for one in all_stretches(row, least, most)]
        words = (row, least, most, told)
        self.assertEqual(how_many_just(row, least, most, told), sums.count(told), words)
        above = len([one for one in sums if one >= told])
        self.assertEqual(how_many_above(row, least, most, told), above, words)

    def check_about(self, row, least, most):
        sums = [one[0] for one in all_stretches(row, least, most)]
        asked = {0, FAR ** 3, -FAR ** 3}
        for total in sums:
            asked.update((total - 1, total, total + 1))
        for told in sorted(asked):
            self.check(row, least, most, told)

    def test_small_rows(self):
        for row in small_rows((-1, 0, 2), 5):
            for least, most in all_lengths(row):
                for told in range(-3, 4):
                    self.check(row, least, most, told)

    def test_about_the_sums_that_are_had(self):
        for row in mixed_rows(24, 8, 4):
            for least, most in all_lengths(row):
                self.check_about(row, least, most)

    def test_great_numbers(self):
        for seed in range(5):
            row = mixed_row(7, seed, NUMBER_OF_32_FIGURES)
            for least, most in [(1, 7), (2, 3), (4, FAR)]:
                self.check_about(row, least, most)

    def test_plainly(self):
        row = [1, -1, 1, -1]
        self.assertEqual(how_many_just(row, 1, 4, 0), 4)
        self.assertEqual(how_many_just(row, 1, 1, 1), 2)
        self.assertEqual(how_many_just(row, 2, 2, 0), 3)
        self.assertEqual(how_many_just(row, 1, 4, 5), 0)
        self.assertEqual(how_many_above(row, 1, 4, 0), 7)
        self.assertEqual(how_many_above(row, 1, 4, 1), 3)
        self.assertEqual(how_many_above(row, 1, FAR, -FAR), 10)
        self.assertEqual(how_many_above(row, 1, FAR, FAR), 0)

    def test_all_nought(self):
        row = [0] * 10
        self.assertEqual(how_many_just(row, 1, 10, 0), 55)
        self.assertEqual(how_many_above(row, 1, 10, 0), 55)
        self.assertEqual(how_many_just(row, 3, 4, 0), 15)
        self.assertEqual(how_many_above(row, 3, 4, 0), 15)
        self.assertEqual(how_many_above(row, 3, 4, 1), 0)

    def test_one_number(self):
        for told, just, above in [(4, 1, 1), (5, 0, 0), (3, 0, 1)]:
            self.assertEqual(how_many_just([4], 1, FAR, told), just)
            self.assertEqual(how_many_above([4], 1, FAR, told), above)

    def test_sums_of_any_size(self):
        self.assertEqual(how_many_just(ROW, 1, 6, 10 ** 5000), 0)
        self.assertEqual(how_many_above(ROW, 1, 6, 10 ** 5000), 0)
        self.assertEqual(how_many_just(ROW, 1, 6, -10 ** 5000), 0)
        self.assertEqual(how_many_above(ROW, 1, 6, -10 ** 5000), 21)

    def test_long_rows(self):
        row = mixed_row(2000, 31, 3)
        for least, most in [(1, 2000), (40, 70), (1990, FAR)]:
            sums = [one[0] for one in all_stretches(row, least, most)]
            for told in [0, 5, -17]:
                self.assertEqual(how_many_just(row, least, most, told), sums.count(told))
        row = mixed_row(60, 32, NUMBER_OF_32_FIGURES)
        for told in [0, 1, -FAR, sum(row[3:50])]:
            self.check(row, 1, 60, told)
            self.check(row, 20, 30, told)

    def test_kinds(self):
        self.assertIs(type(how_many_just(ROW, 1, 6, 3)), int)
        self.assertIs(type(how_many_above(ROW, 1, 6, 3)), int)

    def test_refused(self):
        for ask in [how_many_just, how_many_above]:
            for told in [0, 3, FAR]:
                self.check_refused(lambda row, least, most: ask(row, least, most, told))
                self.check_refused_in_a_row_of_one(lambda row, least, most: ask(row, least, most, told))


class TestNothingIsChanged(unittest.TestCase):
    ASKED = [
        best_sized,
        lambda row, least, most: how_many_just(row, least, most, 3),
        lambda row, least, most: how_many_above(row, least, most, 3),
    ]

    def test_the_row_stays_and_the_answer_too(self):
        for ask in self.ASKED:
            for least, most in all_lengths(ROW):
                row = list(ROW)
                told = ask(row, least, most)
                self.assertEqual(row, ROW)
                self.assertEqual(ask(row, least, most), told)
                self.assertEqual(row, ROW)

    def test_the_row_stays_where_refused(self):
        for ask in self.ASKED:
            row = list(ROW)
            told = ask(row, 2, 4)
            for least, most in NO_LENGTHS + NO_LENGTHS:
                self.assertRaises(errors.NoLength, ask, row, least, most)
                self.assertEqual(row, ROW)
            self.assertEqual(ask(row, 2, 4), told)

    def test_a_changed_row_is_asked_anew(self):
        row = [1, -5, 3]
        self.assertEqual(best_sized(row, 2, 3), (-1, 0, 3))
        self.assertEqual(how_many_just(row, 1, 3, 3), 1)
        self.assertEqual(how_many_above(row, 1, 3, 3), 1)
        row[0] = 8
        self.assertEqual(best_sized(row, 2, 3), (6, 0, 3))
        self.assertEqual(how_many_just(row, 1, 3, 3), 2)
        self.assertEqual(how_many_above(row, 1, 3, 3), 4)
