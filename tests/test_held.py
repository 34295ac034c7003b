import unittest
from itertools import combinations

from tests.plain_walk import (
    FAR,
    NUMBER_OF_32_FIGURES,
    all_stretches,
    best_among,
    mixed_row,
    mixed_rows,
    small_rows,
)
from topstretch import errors
from topstretch.held import are_far, best_few_below, far_places, fewest_holding, holds_row
from topstretch.plain import best_of

ROW = [3, -1, 4, -1, -5, 9]
NO_LENGTHS = [0, -1, -2, -FAR]


def places_above(row):
    return [place for place, number in enumerate(row) if number > 0]


def holding_by_steps(row, most):
    """Point 25 by its words: each begins with the first number above 0 behind the one ahead."""
    told = []
    place = 0
    while place < len(row):
        if row[place] > 0:
            beyond = place
            while beyond < len(row) and beyond - place < most:
                beyond += 1
            told.append((place, beyond))
            place = beyond
        else:
            place += 1
    return told


def holds(row, most, stretches):
    """Point 25 by its words."""
    for first, beyond in stretches:
        if not 0 <= first < beyond <= len(row) or beyond - first > most:
            return False
    return all(any(first <= place < beyond for first, beyond in stretches) for place in places_above(row))


def least_many_holding(row, most):
    """The fewest, by trying all lists of stretches, the shorter lists first."""
    stretches = [(first, beyond) for _, first, beyond in all_stretches(row, 1, most)]
    for many in range(len(row) + 1):
        for some in combinations(stretches, many):
            if holds(row, most, some):
                return many
    raise AssertionError("a stretch for each number holds any row")


def lists_of_far(row, most):
    """All lists of far places, by trying all lists of places above 0."""
    above = places_above(row)
    for many in range(len(above) + 1):
        for places in combinations(above, many):
            if all(other - one >= most for one, other in zip(places, places[1:])):
                yield list(places)


class TestFewestHolding(unittest.TestCase):
    def check(self, row, most):
        told = fewest_holding(row, most)
        self.assertEqual(told, holding_by_steps(row, most), (row, most))
        self.assertIs(holds_row(row, most, told), True)

    def test_small_rows(self):
        for row in small_rows((-1, 0, 1), 6):
            for most in [1, 2, 3, 5, 6, 7, FAR]:
                self.check(row, most)

    def test_none_hold_it_with_fewer(self):
        for row in small_rows((0, 1), 5):
            for most in [1, 2, 3, 5]:
                self.assertEqual(len(fewest_holding(row, most)), least_many_holding(row, most), (row, most))

    def test_long_rows(self):
        for spread in [1, NUMBER_OF_32_FIGURES]:
            row = mixed_row(300, 91, spread)
            for most in [1, 2, 7, 150, 299, 300, 301, FAR]:
                self.check(row, most)

    def test_plainly(self):
        self.assertEqual(fewest_holding(ROW, 1), [(0, 1), (2, 3), (5, 6)])
        self.assertEqual(fewest_holding(ROW, 2), [(0, 2), (2, 4), (5, 6)])
        self.assertEqual(fewest_holding(ROW, 3), [(0, 3), (5, 6)])
        self.assertEqual(fewest_holding(ROW, 5), [(0, 5), (5, 6)])
        self.assertEqual(fewest_holding(ROW, 6), [(0, 6)])
        self.assertEqual(fewest_holding(ROW, FAR), [(0, 6)])

    def test_noughts_need_no_stretch(self):
        self.assertEqual(fewest_holding([0, 0, 1, 0, 0], 2), [(2, 4)])
        self.assertEqual(fewest_holding([-1, 1, -1, 1], 2), [(1, 3), (3, 4)])
        self.assertEqual(fewest_holding([-1, 1, 1, 0, 1], 2), [(1, 3), (4, 5)])

    def test_none_is_above_nought(self):
        for row in [[0], [-1], [0, 0], [-3, 0, -2]]:
            for most in [1, 2, FAR]:
                self.assertEqual(fewest_holding(row, most), [])

    def test_one_number(self):
        for most in [1, 2, FAR]:
            self.assertEqual(fewest_holding([4], most), [(0, 1)])

    def test_kinds(self):
        told = fewest_holding(ROW, 2)
        self.assertIs(type(told), list)
        for stretch in told:
            self.assertIs(type(stretch), tuple)
            self.assertEqual([type(place) for place in stretch], [int, int])
        self.assertIs(type(fewest_holding([0], 2)), list)

    def test_refused(self):
        for most in NO_LENGTHS:
            for row in [ROW, [5], [-5], [0, 0]]:
                with self.subTest(most=most, row=row):
                    with self.assertRaises(errors.TopError) as taken:
                        fewest_holding(row, most)
                    self.assertIs(type(taken.exception), errors.NoLength)


class TestHoldsRow(unittest.TestCase):
    def test_all_lists_of_small_rows(self):
        pairs = [(first, beyond) for first in range(-1, 5) for beyond in range(-1, 5)]
        for row in small_rows((0, 1), 3):
            for most in [1, 2, 3, FAR]:
                self.assertIs(holds_row(row, most, []), holds(row, most, []))
                for one in pairs:
                    self.assertIs(holds_row(row, most, [one]), holds(row, most, [one]), (row, most, one))
                    for other in pairs:
                        self.assertIs(holds_row(row, most, [one, other]), holds(row, most, [one, other]))

    def test_what_is_no_stretch(self):
        whole = (0, 6)
        self.assertIs(holds_row(ROW, 6, [whole]), True)
        for wrong in [
            (-1, 1), (-1, 0), (-6, 6), (-FAR, 6), (-2, -1), (-FAR, -FAR + 1),
            (0, 0), (3, 3), (6, 6), (2, 1), (6, 0), (FAR, 0), (FAR, -FAR),
            (0, 7), (5, 7), (6, 7), (7, 8), (0, FAR), (FAR, FAR + 1),
        ]:
            for most in [6, FAR, 10 ** 30 - 1]:
                for stretches in [[wrong], [whole, wrong], [wrong, whole], [whole, wrong, whole]]:
                    with self.subTest(most=most, stretches=stretches):
                        self.assertIs(holds_row(ROW, most, stretches), False)

    def test_nor_in_a_row_with_nothing_to_hold(self):
        self.assertIs(holds_row([-1, 0], 2, []), True)
        self.assertIs(holds_row([-1, 0], 2, [(0, 1)]), True)
        for wrong in [(0, 0), (1, 0), (-1, 1), (1, 3), (2, 3)]:
            self.assertIs(holds_row([-1, 0], 5, [wrong]), False)
        self.assertIs(holds_row([-1, 0], 1, [(0, 2)]), False)

    def test_too_many_numbers(self):
        self.assertIs(holds_row(ROW, 5, [(0, 6)]), False)
        self.assertIs(holds_row(ROW, 5, [(0, 5), (1, 6)]), True)
        self.assertIs(holds_row(ROW, 4, [(0, 5), (1, 6)]), False)
        self.assertIs(holds_row(ROW, 1, [(0, 1), (2, 3), (5, 6)]), True)
        self.assertIs(holds_row(ROW, 1, [(0, 1), (2, 3), (5, 6), (3, 5)]), False)
        self.assertIs(holds_row(ROW, FAR, [(0, 6)]), True)

    def test_a_number_that_is_left_out(self):
        for row in mixed_rows(30, 12, 3):
            above = places_above(row)
            each = [(place, place + 1) for place in above]
            self.assertIs(holds_row(row, 1, each), True)
            for place in above:
                rest = [one for one in each if one[0] != place]
                self.assertIs(holds_row(row, 1, rest), False, (row, rest))
        self.assertIs(holds_row(ROW, 5, [(0, 5)]), False)
        self.assertIs(holds_row(ROW, 5, [(1, 6)]), False)

    def test_noughts_may_be_left_out(self):
        self.assertIs(holds_row([0, 1, 0, -1], 1, [(1, 2)]), True)
        self.assertIs(holds_row([0, 1, 0, -1], 1, [(0, 1)]), False)

    def test_in_any_order_and_over_one_another(self):
        for stretches in [
            [(5, 6), (0, 3)], [(0, 3), (5, 6)], [(2, 5), (0, 3), (3, 6)], [(3, 6), (3, 6), (0, 3), (0, 3)],
            [(1, 4), (0, 2), (4, 6), (2, 3)],
        ]:
            self.assertIs(holds_row(ROW, 3, stretches), True, stretches)

    def test_the_empty_list(self):
        self.assertIs(holds_row(ROW, 3, []), False)
        self.assertIs(holds_row([1], 1, []), False)
        for row in [[0], [-1], [-1, 0, -3]]:
            self.assertIs(holds_row(row, 3, []), True)

    def test_long_rows(self):
        row = mixed_row(300, 92, NUMBER_OF_32_FIGURES)
        for most in [1, 5, 40, 300, FAR]:
            fewest = fewest_holding(row, most)
            self.assertIs(holds_row(row, most, fewest), True)
            self.assertIs(holds_row(row, most, fewest[::-1] + fewest), True)
            for place in range(len(fewest)):
                self.assertIs(holds_row(row, most, fewest[:place] + fewest[place + 1:]), False)

    def test_refused_ahead_of_all(self):
        for most in NO_LENGTHS:
            for row in [ROW, [5], [-5]]:
                for stretches in [[], [(0, 1)], [(0, 0)], [(-1, 9)], [(0, 1), (FAR, 0)]]:
                    with self.subTest(most=most, row=row, stretches=stretches):
                        with self.assertRaises(errors.TopError) as taken:
                            holds_row(row, most, stretches)
                        self.assertIs(type(taken.exception), errors.NoLength)


class TestFarPlaces(unittest.TestCase):
    def check(self, row, most):
        told = far_places(row, most)
        due = [first for first, _ in holding_by_steps(row, most)]
        self.assertEqual(told, due, (row, most))
        self.assertEqual(len(told), len(fewest_holding(row, most)))
        self.assertIs(are_far(row, most, told), True)

    def test_small_rows(self):
        for row in small_rows((-1, 0, 1), 6):
            for most in [1, 2, 3, 5, 6, 7, FAR]:
                self.check(row, most)

    def test_no_far_places_are_more_than_stretches_that_hold(self):
        for row in small_rows((0, 1), 6):
            for most in [1, 2, 3, 6]:
                most_places = max(len(places) for places in lists_of_far(row, most))
                self.assertEqual(len(far_places(row, most)), most_places)
                self.assertEqual(len(fewest_holding(row, most)), most_places)

    def test_long_rows(self):
        for spread in [1, NUMBER_OF_32_FIGURES]:
            row = mixed_row(300, 93, spread)
            for most in [1, 2, 7, 150, 299, 300, 301, FAR]:
                self.check(row, most)

    def test_plainly(self):
        self.assertEqual(far_places(ROW, 1), [0, 2, 5])
        self.assertEqual(far_places(ROW, 2), [0, 2, 5])
        self.assertEqual(far_places(ROW, 3), [0, 5])
        self.assertEqual(far_places(ROW, 5), [0, 5])
        self.assertEqual(far_places(ROW, 6), [0])
        self.assertEqual(far_places(ROW, FAR), [0])
        self.assertEqual(far_places([0, 1, 1, 1], 2), [1, 3])

    def test_none_is_above_nought(self):
        for row in [[0], [-1], [0, 0], [-3, 0, -2]]:
            for most in [1, 2, FAR]:
                self.assertEqual(far_places(row, most), [])

    def test_kinds(self):
        told = far_places(ROW, 2)
        self.assertIs(type(told), list)
        self.assertEqual({type(place) for place in told}, {int})
        self.assertIs(type(far_places([0], 2)), list)

    def test_refused(self):
        for most in NO_LENGTHS:
            for row in [ROW, [5], [-5], [0, 0]]:
                with self.subTest(most=most, row=row):
                    with self.assertRaises(errors.TopError) as taken:
                        far_places(row, most)
                    self.assertIs(type(taken.exception), errors.NoLength)


class TestAreFar(unittest.TestCase):
    def test_all_lists_of_small_rows(self):
        for row in small_rows((-1, 0, 1), 4):
            for most in [1, 2, 3, FAR]:
                far = list(lists_of_far(row, most))
                places = range(-2, len(row) + 2)
                asked = [[]] + [[one] for one in places]
                asked += [[one, other] for one in places for other in places]
                for some in asked:
                    self.assertIs(are_far(row, most, some), some in far, (row, most, some))

    def test_longer_lists(self):
        row = [1, 1, 0, 1, 1, -1, 1]
        for most in [1, 2, 3]:
            far = list(lists_of_far(row, most))
            for many in [3, 4, 5, 6]:
                for some in combinations(range(-1, 8), many):
                    self.assertIs(are_far(row, most, list(some)), list(some) in far, (most, some))

    def test_too_near(self):
        self.assertIs(are_far([1, 1, 1, 1], 2, [0, 2]), True)
        self.assertIs(are_far([1, 1, 1, 1], 2, [0, 1]), False)
        self.assertIs(are_far([1, 1, 1, 1], 3, [0, 2]), False)
        self.assertIs(are_far([1, 1, 1, 1], 3, [0, 3]), True)
        self.assertIs(are_far([1, 1, 1, 1], FAR, [0, 3]), False)
        self.assertIs(are_far([1, 1, 1, 1, 1], 2, [0, 2, 3]), False)
        self.assertIs(are_far([1, 1, 1, 1, 1], 2, [0, 2, 4]), True)

    def test_falling_or_equal(self):
        for most in [1, 2, FAR]:
            self.assertIs(are_far([1, 1, 1, 1], most, [3, 0]), False)
            self.assertIs(are_far([1, 1, 1, 1], most, [2, 2]), False)
            self.assertIs(are_far([1, 1, 1, 1], most, [0, 3, 1]), False)

    def test_a_place_that_is_none(self):
        for place in [-1, -4, -FAR, 4, 5, FAR]:
            for places in [[place], [0, place], [place, 3], [0, 2, place]]:
                self.assertIs(are_far([1, 1, 1, 1], 1, places), False, places)

    def test_a_number_that_is_not_above_nought(self):
        for place in [1, 3, 4]:
            self.assertIs(are_far(ROW, 1, [place]), False)
        self.assertIs(are_far([0], 1, [0]), False)
        self.assertIs(are_far(ROW, 2, [0, 3, 5]), False)
        self.assertIs(are_far(ROW, 2, [0, 2, 5]), True)

    def test_the_empty_list(self):
        for row in [ROW, [1], [0], [-1, -1]]:
            for most in [1, 2, FAR]:
                self.assertIs(are_far(row, most, []), True)

    def test_what_is_no_whole_number_is_no_place(self):
        self.assertIs(are_far([1, 1], 1, [True]), False)
        self.assertIs(are_far([1, 1], 1, [None]), False)

    def test_long_rows(self):
        row = mixed_row(300, 94, NUMBER_OF_32_FIGURES)
        for most in [1, 5, 40, 300]:
            places = far_places(row, most)
            self.assertIs(are_far(row, most, places), True)
            self.assertIs(are_far(row, most, places[::2]), True)
            self.assertIs(are_far(row, most, places[::-1]), len(places) < 2)
            self.assertIs(are_far(row, most, places + [places[-1]]), False)

    def test_refused_ahead_of_all(self):
        for most in NO_LENGTHS:
            for row in [ROW, [5], [-5]]:
                for places in [[], [0], [-1], [FAR], [0, 0], [5, 0]]:
                    with self.subTest(most=most, row=row, places=places):
                        with self.assertRaises(errors.TopError) as taken:
                            are_far(row, most, places)
                        self.assertIs(type(taken.exception), errors.NoLength)


class TestBestFewBelow(unittest.TestCase):
    def check(self, row, many):
        few = []
        for total, first, beyond in all_stretches(row):
            if len([number for number in row[first:beyond] if number < 0]) <= many:
                few.append((total, first, beyond))
        plain = best_among(few) if few else None
        self.assertEqual(best_few_below(row, many), plain, (row, many))

    def test_small_rows(self):
        for row in small_rows((-2, -1, 0, 1, 2), 5):
            for many in [0, 1, 2, 5]:
                self.check(row, many)

    def test_small_rows_of_many_ties(self):
        for row in small_rows((-1, 0, 1), 7):
            for many in [0, 1, 2, 3]:
                self.check(row, many)

    def test_mixed_rows(self):
        for row in mixed_rows(80, 20, 6):
            for many in [0, 1, 2, 3, 5, 20, FAR]:
                self.check(row, many)

    def test_great_numbers(self):
        for seed in range(20):
            row = mixed_row(10, seed, NUMBER_OF_32_FIGURES)
            for many in [0, 1, 2, 4, FAR]:
                self.check(row, many)

    def test_long_rows(self):
        for spread in [1, NUMBER_OF_32_FIGURES]:
            row = mixed_row(300, 95, spread)
            for many in [0, 3, 40, FAR]:
                self.check(row, many)

    def test_plainly(self):
        self.assertEqual(best_few_below(ROW, 0), (9, 5, 6))
        self.assertEqual(best_few_below([3, -1, 4, -1, 5], 0), (5, 4, 5))
        self.assertEqual(best_few_below([3, -1, 4, -1, 5], 1), (8, 2, 5))
        self.assertEqual(best_few_below([3, -1, 4, -1, 5], 2), (10, 0, 5))

    def test_none(self):
        for row in [[-1], [-3, -1, -2]]:
            self.assertIsNone(best_few_below(row, 0))
            for many in [1, 2, FAR]:
                self.assertEqual(best_few_below(row, many), best_of(row))

    def test_noughts(self):
        self.assertEqual(best_few_below([0], 0), (0, 0, 1))
        self.assertEqual(best_few_below([-1, 0, 0, -1], 0), (0, 1, 2))
        self.assertEqual(best_few_below([-1, 0, 3, 0, -1], 0), (3, 1, 3))

    def test_equal_sums(self):
        self.assertEqual(best_few_below([4, -9, 1, 3, -9, 4], 1), (4, 0, 1))
        self.assertEqual(best_few_below([-1, 1, 3, -1, 4], 0), (4, 1, 3))
        self.assertEqual(best_few_below([4, -4, 4, 0], 1), (4, 0, 1))

    def test_enough_is_the_best_of_the_row(self):
        for row in mixed_rows(60, 20, 6):
            for many in [len(row), FAR, 10 ** 30 - 1]:
                self.assertEqual(best_few_below(row, many), best_of(row))

    def test_kinds(self):
        best = best_few_below(ROW, 1)
        self.assertIs(type(best), tuple)
        self.assertEqual([type(part) for part in best], [int, int, int])

    def test_refused(self):
        for many in [-1, -2, -FAR]:
            for row in [ROW, [5], [-5], [-1, -1]]:
                with self.subTest(many=many, row=row):
                    with self.assertRaises(errors.TopError) as taken:
                        best_few_below(row, many)
                    self.assertIs(type(taken.exception), errors.NoCount)


class TestNothingIsChanged(unittest.TestCase):
    def test_what_is_handed_in_stays_and_the_answer_too(self):
        for most in [1, 2, 3, 6, FAR]:
            for ask, handed in [
                (fewest_holding, []),
                (far_places, []),
                (best_few_below, []),
                (holds_row, [[(3, 6), (0, 3)]]),
                (holds_row, [[(3, 6), (0, 9)]]),
                (are_far, [[0, 2, 5]]),
                (are_far, [[5, 0]]),
            ]:
                row = list(ROW)
                mine = [list(one) for one in handed]
                told = ask(row, most, *mine)
                self.assertEqual((row, mine), (ROW, handed))
                self.assertEqual(ask(row, most, *mine), told)
                self.assertEqual((row, mine), (ROW, handed))

    def test_what_is_handed_in_stays_where_refused(self):
        row = list(ROW)
        stretches = [(3, 6), (0, 3)]
        places = [5, 0]
        for below in [0, -1, -FAR]:
            self.assertRaises(errors.NoLength, fewest_holding, row, below)
            self.assertRaises(errors.NoLength, far_places, row, below)
            self.assertRaises(errors.NoLength, holds_row, row, below, stretches)
            self.assertRaises(errors.NoLength, are_far, row, below, places)
            self.assertRaises(errors.NoCount, best_few_below, row, below - 1)
            self.assertEqual((row, stretches, places), (ROW, [(3, 6), (0, 3)], [5, 0]))
        self.assertEqual(far_places(row, 3), [0, 5])

    def test_the_lists_are_the_askers_own(self):
        for ask, due in [(fewest_holding, [(0, 3), (5, 6)]), (far_places, [0, 5])]:
            row = list(ROW)
            told = ask(row, 3)
            told.append(7)
            told[0] = 8
            self.assertEqual(row, ROW)
            again = ask(row, 3)
            self.assertEqual(again, due)
            row[5] = 0
            self.assertEqual(again, due)
            self.assertEqual(ask(row, 3), due[:1])

    def test_a_changed_row_is_asked_anew(self):
        row = [1, -5, 3]
        self.assertEqual(best_few_below(row, 0), (3, 2, 3))
        self.assertIs(holds_row(row, 1, [(0, 1), (2, 3)]), True)
        self.assertIs(are_far(row, 1, [0, 2]), True)
        row[1] = 5
        self.assertEqual(best_few_below(row, 0), (9, 0, 3))
        self.assertIs(holds_row(row, 1, [(0, 1), (2, 3)]), False)
        row[0] = 0
        self.assertIs(are_far(row, 1, [0, 2]), False)
