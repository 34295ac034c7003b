import unittest

from tests.plain_walk import (
    FAR,
    NUMBER_OF_32_FIGURES,
    all_lengths,
    all_ring_stretches,
    best_among,
    mixed_row,
    mixed_rows,
    small_rows,
)
from topstretch import errors
from topstretch.plain import best_of
from topstretch.rings import best_ring, best_ring_sized, ring_sum

RING = [3, -1, 4, -1, -5, 9]
NO_STRETCHES = [
    (-1, 1), (-1, 6), (-6, 6), (-FAR, 1), (-FAR, 6),
    (6, 1), (6, 6), (7, 1), (FAR, 1), (FAR, FAR),
    (0, 0), (3, 0), (5, 0), (0, -1), (3, -1), (5, -6), (0, -FAR),
    (0, 7), (3, 7), (5, 7), (0, 12), (2, FAR),
    (-1, 0), (6, 0), (6, 7), (-FAR, FAR),
]
NO_LENGTHS = [
    (0, 1), (0, 0), (0, 6), (-1, 6), (-1, -1), (-FAR, 6), (-FAR, FAR), (0, FAR),
    (2, 1), (6, 5), (1, 0), (1, -1), (3, -FAR), (1, -FAR),
    (7, 7), (7, 8), (7, FAR), (FAR, FAR), (FAR, FAR + 1), (7, 6), (FAR, 6), (7, 11), (11, 11),
]


class TestRingSum(unittest.TestCase):
    def test_one_number(self):
        for place, number in enumerate(RING):
            self.assertEqual(ring_sum(RING, place, 1), number)

    def test_all_from_anywhere(self):
        for first in range(6):
            self.assertEqual(ring_sum(RING, first, 6), 9)

    def test_not_over_the_end(self):
        self.assertEqual(ring_sum(RING, 0, 3), 6)
        self.assertEqual(ring_sum(RING, 1, 3), 2)
        self.assertEqual(ring_sum(RING, 3, 3), 3)

    def test_over_the_end(self):
        self.assertEqual(ring_sum(RING, 5, 2), 12)
        self.assertEqual(ring_sum(RING, 4, 3), 7)
        self.assertEqual(ring_sum(RING, 5, 5), 14)

    def test_any(self):
        for ring in mixed_rows(60, 12, 9):
            for total, first, many in all_ring_stretches(ring):
                self.assertEqual(ring_sum(ring, first, many), total)

    def test_long_ring_of_great_numbers(self):
        ring = mixed_row(100, 5, NUMBER_OF_32_FIGURES)
        for total, first, many in all_ring_stretches(ring):
            self.assertEqual(ring_sum(ring, first, many), total)

    def test_it_is_a_whole_number(self):
        self.assertIs(type(ring_sum(RING, 4, 4)), int)

    def test_refused(self):
        for first, many in NO_STRETCHES:
            with self.subTest(first=first, many=many):
                with self.assertRaises(errors.NoStretch):
                    ring_sum(RING, first, many)

    def test_refused_in_a_ring_of_one_number(self):
        self.assertEqual(ring_sum([5], 0, 1), 5)
        for first, many in [(0, 0), (0, 2), (1, 1), (-1, 1), (1, 0), (0, -1), (0, FAR), (FAR, 1)]:
            with self.subTest(first=first, many=many):
                self.assertRaises(errors.NoStretch, ring_sum, [5], first, many)

    def test_refused_by_its_form(self):
        for first, many in [(False, 1), (0, True), (True, True), (None, 1), (0, None)]:
            with self.subTest(first=first, many=many):
                self.assertRaises(errors.NoStretch, ring_sum, RING, first, many)

    def test_the_refusal_is_no_other_one(self):
        with self.assertRaises(errors.TopError) as taken:
            ring_sum(RING, 0, 0)
        self.assertIs(type(taken.exception), errors.NoStretch)


class TestBestRing(unittest.TestCase):
    def check(self, ring):
        self.assertEqual(best_ring(ring), best_among(all_ring_stretches(ring)), ring)

    def test_small_rings(self):
        for ring in small_rows((-2, -1, 0, 1, 2), 5):
            self.check(ring)

    def test_small_rings_of_many_ties(self):
        for ring in small_rows((-1, 0, 1), 8):
            self.check(ring)

    def test_mixed_rings(self):
        for ring in mixed_rows(300, 25, 6):
            self.check(ring)

    def test_over_the_end(self):
        self.assertEqual(best_ring(RING), (15, 5, 4))
        self.assertEqual(best_ring([4, -9, 4]), (8, 2, 2))

    def test_not_over_the_end(self):
        self.assertEqual(best_ring([-9, 4, 5, -9]), (9, 1, 2))

    def test_all_above_nought_is_all_from_the_first(self):
        self.assertEqual(best_ring([2, 3, 4]), (9, 0, 3))

    def test_all_below_nought(self):
        self.assertEqual(best_ring([-3, -1, -2, -1]), (-1, 1, 1))

    def test_all_nought(self):
        self.assertEqual(best_ring([0, 0, 0]), (0, 0, 1))

    def test_of_equal_sums_the_least_first(self):
        self.assertEqual(best_ring([4, -9, 4, -9]), (4, 0, 1))
        self.assertEqual(best_ring([-9, 4, -9, 4]), (4, 1, 1))
        self.assertEqual(best_ring([-9, 0, 4, -9]), (4, 1, 2))
        self.assertEqual(best_ring([4, -9, 0]), (4, 0, 1))

    def test_of_equal_firsts_the_least_many(self):
        self.assertEqual(best_ring([4, 0, -9]), (4, 0, 1))
        self.assertEqual(best_ring([0, -9, 4]), (4, 2, 1))
        self.assertEqual(best_ring([1, -1, 1, -1]), (1, 0, 1))

    def test_one_number(self):
        for number in [0, 7, -7, NUMBER_OF_32_FIGURES, -NUMBER_OF_32_FIGURES]:
            self.assertEqual(best_ring([number]), (number, 0, 1))

    def test_two_numbers(self):
        self.assertEqual(best_ring([-1, 5]), (5, 1, 1))
        self.assertEqual(best_ring([5, 5]), (10, 0, 2))
        self.assertEqual(best_ring([0, 5]), (5, 0, 2))

    def test_great_numbers(self):
        self.check([FAR, -FAR, FAR, -FAR - 1, FAR, 1])
        self.check([-FAR, -FAR + 1, -FAR])
        for seed in range(40):
            self.check(mixed_row(12, seed, NUMBER_OF_32_FIGURES))

    def test_long_rings(self):
        self.check(mixed_row(2000, 11, NUMBER_OF_32_FIGURES))
        self.check(mixed_row(1999, 12, 1))

    def test_never_less_than_the_best_of_the_row(self):
        for ring in mixed_rows(100, 30, 9):
            self.assertGreaterEqual(best_ring(ring)[0], best_of(ring)[0])

    def test_kinds(self):
        for ring in [[5], [-1, 0, 2], RING]:
            best = best_ring(ring)
            self.assertIs(type(best), tuple)
            self.assertEqual([type(part) for part in best], [int, int, int])
            self.assertEqual(ring_sum(ring, best[1], best[2]), best[0])


class TestBestRingSized(unittest.TestCase):
    def check(self, ring, least, most):
        plain = best_among(all_ring_stretches(ring, least, most))
        self.assertEqual(best_ring_sized(ring, least, most), plain, (ring, least, most))

    def test_small_rings(self):
        for ring in small_rows((-1, 0, 1), 6):
            for least, most in all_lengths(ring):
                self.check(ring, least, most)

    def test_mixed_rings(self):
        for ring in mixed_rows(120, 12, 7):
            for least, most in all_lengths(ring):
                self.check(ring, least, most)

    def test_least_and_most_alike(self):
        self.assertEqual(best_ring_sized(RING, 1, 1), (9, 5, 1))
        self.assertEqual(best_ring_sized(RING, 2, 2), (12, 5, 2))
        self.assertEqual(best_ring_sized(RING, 6, 6), (9, 0, 6))

    def test_one_and_all_is_the_best_of_any(self):
        for ring in mixed_rows(100, 20, 5):
            self.assertEqual(best_ring_sized(ring, 1, len(ring)), best_ring(ring))

    def test_most_above_how_many_there_are(self):
        for most in [6, 7, 8, 11, 12, FAR]:
            self.assertEqual(best_ring_sized(RING, 2, most), (15, 5, 4))
            self.assertEqual(best_ring_sized(RING, 6, most), (9, 0, 6))
            self.assertEqual(best_ring_sized([1, 2], 1, most), (3, 0, 2))

    def test_equal_sums(self):
        self.assertEqual(best_ring_sized([0, 0, 0, 0], 2, 3), (0, 0, 2))
        self.assertEqual(best_ring_sized([2, -9, 2, 2, -9, 2], 2, 2), (4, 2, 2))
        self.assertEqual(best_ring_sized([2, 2, -9, 0, 4, -9], 2, 2), (4, 0, 2))
        self.assertEqual(best_ring_sized([1, 1, 1], 2, 2), (2, 0, 2))

    def test_all_below_nought(self):
        self.assertEqual(best_ring_sized([-1, -3, -2], 2, 3), (-3, 2, 2))

    def test_one_number(self):
        for most in [1, 2, FAR]:
            self.assertEqual(best_ring_sized([-4], 1, most), (-4, 0, 1))

    def test_great_numbers(self):
        for seed in range(20):
            ring = mixed_row(9, seed, NUMBER_OF_32_FIGURES)
            for least, most in all_lengths(ring):
                self.check(ring, least, most)

    def test_long_rings(self):
        for ring in [mixed_row(60, 21, NUMBER_OF_32_FIGURES), mixed_row(60, 22, 1)]:
            for least, most in [(1, 60), (1, FAR), (20, 30), (59, 60), (60, 60), (31, 31), (45, FAR)]:
                self.check(ring, least, most)

    def test_kinds(self):
        best = best_ring_sized(RING, 2, 3)
        self.assertIs(type(best), tuple)
        self.assertEqual([type(part) for part in best], [int, int, int])

    def test_refused(self):
        for least, most in NO_LENGTHS:
            with self.subTest(least=least, most=most):
                with self.assertRaises(errors.TopError) as taken:
                    best_ring_sized(RING, least, most)
                self.assertIs(type(taken.exception), errors.NoLength)

    def test_refused_in_a_ring_of_one(self):
        for least, most in [(0, 1), (1, 0), (2, 2), (2, FAR), (-1, 1)]:
            with self.subTest(least=least, most=most):
                self.assertRaises(errors.NoLength, best_ring_sized, [5], least, most)


class TestNothingIsChanged(unittest.TestCase):
    ASKED = [
        lambda ring: ring_sum(ring, 4, 4),
        lambda ring: ring_sum(ring, 0, 6),
        best_ring,
        lambda ring: best_ring_sized(ring, 2, 3),
        lambda ring: best_ring_sized(ring, 1, FAR),
    ]

    def test_the_ring_stays_and_the_answer_too(self):
        for ask in self.ASKED:
            ring = list(RING)
            told = ask(ring)
            self.assertEqual(ring, RING)
            self.assertEqual(ask(ring), told)
            self.assertEqual(ring, RING)

    def test_the_ring_stays_where_refused(self):
        ring = list(RING)
        for first, many in NO_STRETCHES:
            self.assertRaises(errors.NoStretch, ring_sum, ring, first, many)
            self.assertEqual(ring, RING)
        for least, most in NO_LENGTHS:
            self.assertRaises(errors.NoLength, best_ring_sized, ring, least, most)
            self.assertEqual(ring, RING)
        self.assertEqual(ring_sum(ring, 5, 2), 12)
        self.assertEqual(best_ring_sized(ring, 2, 2), (12, 5, 2))

    def test_a_changed_ring_is_asked_anew(self):
        ring = [1, -5, 3]
        self.assertEqual(best_ring(ring), (4, 2, 2))
        self.assertEqual(best_ring_sized(ring, 1, 1), (3, 2, 1))
        self.assertEqual(ring_sum(ring, 2, 2), 4)
        ring[1] = 9
        self.assertEqual(best_ring(ring), (13, 0, 3))
        self.assertEqual(best_ring_sized(ring, 1, 1), (9, 1, 1))
        ring[0] = 2
        self.assertEqual(ring_sum(ring, 2, 2), 5)
