import unittest

from tests.plain_walk import (
    FAR,
    NUMBER_OF_32_FIGURES,
    all_stretches,
    mixed_row,
    mixed_rows,
    small_rows,
)
from topstretch import errors
from topstretch.halves import changed, kept, row_of
from topstretch.must import must_be, places_in_best

ROW = [3, -1, 4, -1, -5, 9]


def places_plainly(row):
    """All places of all stretches of the greatest sum."""
    stretches = all_stretches(row)
    most = max(total for total, _, _ in stretches)
    places = set()
    for total, first, beyond in stretches:
        if total == most:
            places.update(range(first, beyond))
    return sorted(places)


def with_number(row, place, number):
    return row[:place] + [number] + row[place + 1:]


class TestMustBe(unittest.TestCase):
    def check(self, row, place):
        held = kept(row)
        told = must_be(held, place)
        self.assertIs(type(told), int)
        self.assertIn(place, places_plainly(with_number(row, place, told)), (row, place))
        self.assertNotIn(place, places_plainly(with_number(row, place, told - 1)), (row, place))

    def check_all(self, row):
        for place in range(len(row)):
            self.check(row, place)

    def test_small_rows(self):
        for row in small_rows((-2, -1, 0, 1, 2), 4):
            if len(row) > 1:
                self.check_all(row)

    def test_small_rows_of_many_ties(self):
        for row in small_rows((-1, 0, 1), 5):
            if len(row) > 1:
                self.check_all(row)

    def test_mixed_rows(self):
        for row in mixed_rows(60, 17, 6):
            if len(row) > 1:
                self.check_all(row)

    def test_great_numbers(self):
        for seed in range(10):
            self.check_all(mixed_row(7, seed, NUMBER_OF_32_FIGURES))

    def test_longer_rows(self):
        for row in [mixed_row(150, 31, NUMBER_OF_32_FIGURES), mixed_row(131, 32, 1)]:
            for place in [0, 1, 64, 65, len(row) // 2, len(row) - 2, len(row) - 1]:
                self.check(row, place)

    def test_each_above_lets_it_in_and_each_below_leaves_it_out(self):
        for row in mixed_rows(25, 9, 4):
            if len(row) == 1:
                continue
            for place in range(len(row)):
                told = must_be(kept(row), place)
                for more in [0, 1, 2, 9, FAR]:
                    self.assertIn(place, places_plainly(with_number(row, place, told + more)))
                    self.assertNotIn(place, places_plainly(with_number(row, place, told - 1 - more)))

    def test_the_number_in_the_place_has_no_say(self):
        for row in mixed_rows(25, 9, 4):
            for place in range(len(row)):
                told = must_be(kept(row), place)
                for number in [0, 50, -50, NUMBER_OF_32_FIGURES]:
                    self.assertEqual(must_be(changed(kept(row), [(place, number)]), place), told)

    def test_plainly(self):
        self.assertEqual([must_be(kept(ROW), place) for place in range(6)], [3, -1, 4, -1, -5, 6])
        self.assertEqual(must_be(kept([5, 0, -7, 0, 6]), 2), -5)

    def test_first_and_last_place(self):
        self.assertEqual(must_be(kept([0, 4, 2]), 0), 0)
        self.assertEqual(must_be(kept([0, -4, 2]), 0), 2)
        self.assertEqual(must_be(kept([2, 4, 0]), 2), 0)
        self.assertEqual(must_be(kept([2, -4, 0]), 2), 2)
        self.assertEqual(must_be(kept([7, 5]), 0), 0)
        self.assertEqual(must_be(kept([7, 5]), 1), 0)

    def test_all_below_nought(self):
        self.assertEqual([must_be(kept([-3, -1, -2]), place) for place in range(3)], [-1, -2, -1])
        self.assertEqual(must_be(kept([-3, -5]), 0), -5)

    def test_noughts(self):
        for place in range(4):
            self.assertEqual(must_be(kept([0, 0, 0, 0]), place), 0)

    def test_behind_changes(self):
        held = changed(kept([9, 9, 9, 9, 9, 9]), list(enumerate(ROW)))
        self.assertEqual([must_be(held, place) for place in range(6)], [3, -1, 4, -1, -5, 6])

    def test_one_number(self):
        for number in [0, 5, -5, FAR, -NUMBER_OF_32_FIGURES]:
            self.assertIsNone(must_be(kept([number]), 0))

    def test_refused(self):
        held = kept(ROW)
        for place in [-1, -2, -6, -7, -FAR, 6, 7, 12, FAR]:
            with self.subTest(place=place):
                with self.assertRaises(errors.TopError) as taken:
                    must_be(held, place)
                self.assertIs(type(taken.exception), errors.NoPlace)
        self.assertEqual(must_be(held, 0), 3)

    def test_refused_in_a_row_of_one_number(self):
        for place in [-1, 1, 2, -FAR, FAR]:
            with self.subTest(place=place):
                self.assertRaises(errors.NoPlace, must_be, kept([5]), place)

    def test_what_is_no_whole_number_is_no_place(self):
        for place in [True, False, None]:
            self.assertRaises(errors.NoPlace, must_be, kept(ROW), place)
            self.assertRaises(errors.NoPlace, must_be, kept([5]), place)


class TestPlacesInBest(unittest.TestCase):
    def check(self, row):
        self.assertEqual(places_in_best(kept(row)), places_plainly(row), row)

    def test_small_rows(self):
        for row in small_rows((-2, -1, 0, 1, 2), 5):
            self.check(row)

    def test_small_rows_of_many_ties(self):
        for row in small_rows((-1, 0, 1), 8):
            self.check(row)

    def test_mixed_rows(self):
        for row in mixed_rows(200, 30, 3):
            self.check(row)

    def test_great_numbers(self):
        for seed in range(20):
            self.check(mixed_row(12, seed, NUMBER_OF_32_FIGURES))
        self.check([FAR, -FAR, FAR, -FAR - 1, FAR])

    def test_longer_rows(self):
        self.check(mixed_row(500, 33, NUMBER_OF_32_FIGURES))
        self.check(mixed_row(600, 34, 1))

    def test_several_of_the_greatest_sum(self):
        self.assertEqual(places_in_best(kept([4, -9, 4, -9, 4])), [0, 2, 4])
        self.assertEqual(places_in_best(kept([4, -9, 3, 1, -9, 2])), [0, 2, 3])

    def test_over_one_another(self):
        self.assertEqual(places_in_best(kept([4, -4, 4, -9])), [0, 1, 2])
        self.assertEqual(places_in_best(kept([1, -1, 1, -1, 1])), [0, 1, 2, 3, 4])
        self.assertEqual(places_in_best(kept([-1, 1, -1, 1, -1])), [1, 2, 3])

    def test_noughts_and_sums_of_nought_beside_them(self):
        self.assertEqual(places_in_best(kept([0, 4, 0, 0, -1])), [0, 1, 2, 3])
        self.assertEqual(places_in_best(kept([-1, 1, 4, -2, 2, -1])), [1, 2, 3, 4])
        self.assertEqual(places_in_best(kept([1, -1, 4])), [0, 1, 2])
        self.assertEqual(places_in_best(kept([0, -1, 0, -1])), [0, 2])

    def test_all_below_nought(self):
        self.assertEqual(places_in_best(kept([-3, -1, -2, -1])), [1, 3])

    def test_one_number(self):
        for number in [0, 5, -5]:
            self.assertEqual(places_in_best(kept([number])), [0])

    def test_just_the_places_whose_numbers_are_as_they_must_be(self):
        for row in mixed_rows(120, 40, 5):
            held = kept(row)
            due = [place for place in range(len(row))
                   if must_be(held, place) is None or row[place] >= must_be(held, place)]
            self.assertEqual(places_in_best(held), due)

    def test_long_rows(self):
        for spread in [1, NUMBER_OF_32_FIGURES]:
            row = mixed_row(3000, 35, spread)
            held = kept(row)
            due = [place for place in range(3000) if row[place] >= must_be(held, place)]
            self.assertEqual(places_in_best(held), due)

    def test_behind_changes(self):
        held = changed(kept([4, -9, 4]), [(1, -4)])
        self.assertEqual(places_in_best(held), [0, 1, 2])
        self.assertEqual(places_in_best(changed(held, [(0, 5)])), [0, 1, 2])
        self.assertEqual(places_in_best(changed(held, [(0, 3)])), [2])

    def test_kinds(self):
        told = places_in_best(kept(ROW))
        self.assertIs(type(told), list)
        self.assertEqual({type(place) for place in told}, {int})

    def test_a_new_list_each_time(self):
        held = kept(ROW)
        told = places_in_best(held)
        self.assertEqual(told, [0, 1, 2, 3, 4, 5])
        told.clear()
        self.assertEqual(places_in_best(held), [0, 1, 2, 3, 4, 5])
        self.assertIsNot(places_in_best(held), places_in_best(held))
        self.assertEqual(row_of(held), ROW)
