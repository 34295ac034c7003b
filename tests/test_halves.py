import unittest
from itertools import permutations

from tests.plain_walk import (
    FAR,
    NUMBER_OF_32_FIGURES,
    all_ring_stretches,
    all_stretches,
    best_among,
    mixed_changes,
    mixed_row,
    mixed_rows,
    small_rows,
)
from topstretch import errors
from topstretch.halves import best_in, best_round, changed, kept, row_of, sum_in

ROW = [3, -1, 4, -1, -5, 9]
NO_PLACES = [-1, -2, -6, -7, -FAR, 6, 7, 12, FAR]
NO_STRETCHES = [
    (0, 0), (3, 3), (6, 6), (3, 2), (6, 0), (5, 1), (FAR, 0), (FAR, -FAR),
    (-1, 0), (-1, 1), (-1, 6), (-6, 6), (-FAR, 6), (-FAR, FAR), (-2, -1), (0, -1), (1, -5),
    (0, 7), (5, 7), (0, 12), (0, FAR), (5, FAR), (6, 7), (7, 8), (FAR, FAR + 1),
]


def put_plainly(row, changes):
    told = list(row)
    for place, number in changes:
        told[place] = number
    return told


def best_of_part(row, first, beyond):
    """A plain walk over the stretches of a part, its places those of the row."""
    inner = [one for one in all_stretches(row) if first <= one[1] and one[2] <= beyond]
    return best_among(inner)


class TestKept(unittest.TestCase):
    def check(self, row):
        held = kept(row)
        self.assertIs(type(held), tuple)
        self.assertEqual(row_of(held), row)
        self.assertEqual(kept(list(row)), held)

    def test_small_rows(self):
        for row in small_rows((-1, 0, 1), 5):
            self.check(row)

    def test_each_length(self):
        for many in list(range(1, 70)) + [127, 128, 129, 255, 257, 300, 511, 700]:
            self.check(mixed_row(many, many, 9))

    def test_one_number(self):
        for number in [0, 5, -5, FAR, -NUMBER_OF_32_FIGURES]:
            self.check([number])

    def test_great_numbers(self):
        self.check([10 ** 29, -(10 ** 29), 10 ** 30 - 1, -NUMBER_OF_32_FIGURES])
        self.check(mixed_row(300, 3, NUMBER_OF_32_FIGURES))

    def test_long_rows(self):
        self.check(mixed_row(3000, 4, NUMBER_OF_32_FIGURES))
        self.check(mixed_row(2999, 5, 1))

    def test_other_rows_are_told_as_others(self):
        told = [kept(row) for row in small_rows((-1, 0, 1), 4)]
        for place, one in enumerate(told):
            for other in told[place + 1:]:
                self.assertNotEqual(one, other)

    def test_the_same_behind_changes_in_any_order(self):
        wanted = kept([1, -2, 3, 0, 7])
        for order in permutations(enumerate([1, -2, 3, 0, 7])):
            self.assertEqual(changed(kept([9, 9, -9, 9, 9]), list(order)), wanted)
            one_by_one = kept([0, 0, 0, 0, 0])
            for change in order:
                one_by_one = changed(one_by_one, [change])
            self.assertEqual(one_by_one, wanted)

    def test_the_same_from_any_other_row(self):
        for many in [1, 2, 3, 5, 6, 7, 8, 11, 31, 33, 100, 333]:
            row = mixed_row(many, many, 9)
            other = mixed_row(many, many + 1, NUMBER_OF_32_FIGURES)
            changes = list(enumerate(row))
            self.assertEqual(changed(kept(other), changes), kept(row))
            self.assertEqual(changed(kept(other), changes[::-1]), kept(row))
            roundabout = mixed_changes(row, 2 * many, many, 50) + changes[many // 2:] + changes[:many // 2]
            self.assertEqual(changed(kept(other), roundabout), kept(row))

    def test_there_and_back(self):
        held = kept(ROW)
        self.assertEqual(changed(changed(held, [(2, 100)]), [(2, 4)]), held)
        self.assertEqual(changed(held, [(2, 100), (0, 0), (2, 4), (0, 3)]), held)

    def test_a_row_changed_behind_it_changes_nothing(self):
        row = list(ROW)
        held = kept(row)
        row[0] = 100
        row.append(7)
        self.assertEqual(row_of(held), ROW)
        self.assertEqual(held, kept(ROW))
        self.assertEqual(best_in(held, (0, 6)), (9, 0, 6))
        row.clear()
        self.assertEqual(row_of(held), ROW)
        self.assertEqual(sum_in(held, (0, 6)), 9)
        self.assertEqual(best_round(held), (15, 5, 4))

    def test_the_row_that_is_told_is_the_askers_own(self):
        for row in [ROW, [5], [5, 6]]:
            held = kept(row)
            told = row_of(held)
            self.assertIs(type(told), list)
            told[0] = 77
            told.append(8)
            self.assertEqual(row_of(held), row)
            self.assertEqual(held, kept(row))
            first = row_of(held)
            self.assertIsNot(first, row_of(held))
            changed(held, [(0, 55)])
            self.assertEqual(first, row)

    def test_what_is_kept_can_be_a_key(self):
        # Only where no list or dict is hidden in it: those could be changed by whoever has it.
        for row in [[5], ROW, mixed_row(40, 1, 9)]:
            self.assertEqual({kept(row): 1}[kept(row)], 1)


class TestChanged(unittest.TestCase):
    def check(self, row, changes):
        held = kept(row)
        mine = list(changes)
        told = changed(held, mine)
        due = put_plainly(row, changes)
        self.assertIs(type(told), tuple)
        self.assertEqual(row_of(told), due)
        self.assertEqual(told, kept(due))
        self.assertEqual(mine, changes)
        self.assertEqual(held, kept(row))
        self.assertEqual(row_of(held), row)

    def test_none(self):
        for row in [[5], ROW]:
            self.check(row, [])

    def test_one_at_each_place(self):
        for many in [1, 2, 3, 5, 8, 13, 50]:
            row = mixed_row(many, many, 9)
            for place in range(many):
                for number in [0, 11, -11, row[place], NUMBER_OF_32_FIGURES, -FAR]:
                    self.check(row, [(place, number)])

    def test_first_and_last_place(self):
        self.assertEqual(row_of(changed(kept(ROW), [(0, 8)])), [8, -1, 4, -1, -5, 9])
        self.assertEqual(row_of(changed(kept(ROW), [(5, 8)])), [3, -1, 4, -1, -5, 8])
        self.check(ROW, [(0, 8), (5, -8)])

    def test_the_same_place_twice(self):
        self.assertEqual(row_of(changed(kept(ROW), [(2, 8), (2, 6)])), [3, -1, 6, -1, -5, 9])
        self.assertEqual(row_of(changed(kept(ROW), [(2, 6), (2, 8)])), [3, -1, 8, -1, -5, 9])
        self.check(ROW, [(2, 8), (0, 1), (2, 4), (0, 2), (2, 7)])
        self.check([5], [(0, 1), (0, 2), (0, 3)])

    def test_many(self):
        for row in mixed_rows(80, 40, 9):
            self.check(row, mixed_changes(row, 30, len(row), 9))
        row = mixed_row(300, 8, NUMBER_OF_32_FIGURES)
        self.check(row, mixed_changes(row, 400, 9, NUMBER_OF_32_FIGURES))

    def test_long_rows(self):
        row = mixed_row(3000, 8, NUMBER_OF_32_FIGURES)
        self.check(row, mixed_changes(row, 100, 9, NUMBER_OF_32_FIGURES) + [(0, 1), (2999, 2)])

    def test_one_behind_the_other_is_all_at_once(self):
        for row in mixed_rows(30, 20, 9):
            changes = mixed_changes(row, 12, len(row), 9)
            held = kept(row)
            for change in changes:
                held = changed(held, [change])
            self.assertEqual(held, changed(kept(row), changes))

    def test_the_handed_list_is_not_kept(self):
        changes = [(0, 8), (5, 2)]
        told = changed(kept(ROW), changes)
        changes[0] = (0, 1)
        changes.append((1, 1))
        self.assertEqual(row_of(told), [8, -1, 4, -1, -5, 2])
        changes.clear()
        self.assertEqual(row_of(told), [8, -1, 4, -1, -5, 2])

    def check_refused(self, held, changes):
        row = row_of(held)
        mine = list(changes)
        with self.assertRaises(errors.TopError) as taken:
            changed(held, mine)
        self.assertIs(type(taken.exception), errors.NoPlace)
        self.assertEqual(mine, changes)
        self.assertEqual(row_of(held), row)
        self.assertEqual(held, kept(row))

    def test_refused(self):
        held = kept(ROW)
        for place in NO_PLACES:
            with self.subTest(place=place):
                self.check_refused(held, [(place, 1)])
                self.check_refused(held, [(place, 1), (0, 50), (5, 60)])
                self.check_refused(held, [(0, 50), (place, 1), (5, 60)])
                self.check_refused(held, [(0, 50), (5, 60), (place, 1)])
                self.check_refused(held, [(place, 1), (place, 1)])
                self.assertEqual(best_in(held, (0, 6)), (9, 0, 6))
                self.assertEqual(row_of(changed(held, [(0, 50)])), [50, -1, 4, -1, -5, 9])

    def test_refused_in_a_row_of_one_number(self):
        held = kept([5])
        for place in [-1, 1, 2, FAR, -FAR]:
            self.check_refused(held, [(place, 1)])
            self.check_refused(held, [(0, 3), (place, 1)])

    def test_refused_in_each_length(self):
        for many in range(1, 20):
            held = kept(mixed_row(many, many, 9))
            for place in [-1, -many, -many - 1, many, many + 1, 2 * many]:
                self.check_refused(held, [(place, 1)])

    def test_refused_behind_changes(self):
        held = changed(kept(ROW), [(0, 1)])
        for place in NO_PLACES:
            self.check_refused(held, [(1, 2), (place, 1)])

    def test_what_is_no_whole_number_is_no_place(self):
        for place in [True, False, None]:
            self.check_refused(kept(ROW), [(place, 1)])


class TestBestIn(unittest.TestCase):
    def check(self, held, row):
        for first in range(len(row)):
            # Beyond rises, so what the part gains is just the stretches that end there.
            best = None
            for beyond in range(first + 1, len(row) + 1):
                gained = [(sum(row[one:beyond]), one, beyond) for one in range(first, beyond)]
                best = best_among(gained if best is None else gained + [best])
                self.assertEqual(best_in(held, (first, beyond)), best, (row, first, beyond))

    def test_the_walk_by_steps_is_the_plain_one(self):
        for row in mixed_rows(20, 8, 2):
            for first in range(len(row)):
                for beyond in range(first + 1, len(row) + 1):
                    plain = best_of_part(row, first, beyond)
                    self.assertEqual(best_in(kept(row), (first, beyond)), plain)

    def test_small_rows(self):
        for row in small_rows((-2, -1, 0, 1, 2), 4):
            self.check(kept(row), row)

    def test_small_rows_of_many_ties(self):
        for row in small_rows((-1, 0, 1), 7):
            self.check(kept(row), row)

    def test_mixed_rows(self):
        for row in mixed_rows(60, 30, 5):
            self.check(kept(row), row)

    def test_great_numbers(self):
        for seed in range(10):
            row = mixed_row(11, seed, NUMBER_OF_32_FIGURES)
            self.check(kept(row), row)

    def test_behind_changes(self):
        for row in mixed_rows(50, 17, 3):
            held = kept(row)
            for change in mixed_changes(row, 4, len(row), 3):
                held = changed(held, [change])
                row = put_plainly(row, [change])
                self.check(held, row)

    def test_equal_sums(self):
        self.assertEqual(best_in(kept([4, -9, 4, -9, 4]), (0, 5)), (4, 0, 1))
        self.assertEqual(best_in(kept([4, -9, 4, -9, 4]), (1, 5)), (4, 2, 3))
        self.assertEqual(best_in(kept([4, -9, 4, -9, 4]), (3, 5)), (4, 4, 5))
        self.assertEqual(best_in(kept([0, 4, 0, -9]), (0, 4)), (4, 0, 2))
        self.assertEqual(best_in(kept([0, 4, 0, -9]), (1, 4)), (4, 1, 2))
        self.assertEqual(best_in(kept([4, -4, 4, -4, 4]), (0, 5)), (4, 0, 1))
        self.assertEqual(best_in(kept([-4, 4, -4, 4]), (0, 4)), (4, 1, 2))
        self.assertEqual(best_in(kept([1, -1, 0, 3]), (0, 4)), (3, 0, 4))

    def test_all_below_nought(self):
        held = kept([-3, -1, -2, -1, -4])
        self.assertEqual(best_in(held, (0, 5)), (-1, 1, 2))
        self.assertEqual(best_in(held, (2, 5)), (-1, 3, 4))
        self.assertEqual(best_in(held, (4, 5)), (-4, 4, 5))

    def test_noughts(self):
        held = kept([0] * 7)
        for first in range(7):
            for beyond in range(first + 1, 8):
                self.assertEqual(best_in(held, (first, beyond)), (0, first, first + 1))

    def test_one_number(self):
        for place, number in enumerate(ROW):
            self.assertEqual(best_in(kept(ROW), (place, place + 1)), (number, place, place + 1))
        self.assertEqual(best_in(kept([-7]), (0, 1)), (-7, 0, 1))

    def test_to_the_ends_and_the_whole(self):
        held = kept(ROW)
        self.assertEqual(best_in(held, (0, 3)), (6, 0, 3))
        self.assertEqual(best_in(held, (1, 6)), (9, 5, 6))
        self.assertEqual(best_in(held, (1, 5)), (4, 2, 3))
        self.assertEqual(best_in(held, (0, 6)), (9, 0, 6))

    def test_kinds(self):
        best = best_in(kept(ROW), (1, 5))
        self.assertIs(type(best), tuple)
        self.assertEqual([type(part) for part in best], [int, int, int])

    def test_refused(self):
        for held in [kept(ROW), changed(kept([0] * 6), list(enumerate(ROW)))]:
            for stretch in NO_STRETCHES:
                with self.subTest(stretch=stretch):
                    with self.assertRaises(errors.TopError) as taken:
                        best_in(held, stretch)
                    self.assertIs(type(taken.exception), errors.NoStretch)
            self.assertEqual(best_in(held, (0, 6)), (9, 0, 6))

    def test_refused_in_a_row_of_one_number(self):
        for stretch in [(0, 0), (1, 1), (1, 0), (0, 2), (1, 2), (-1, 0), (-1, 1), (0, -1), (0, FAR)]:
            self.assertRaises(errors.NoStretch, best_in, kept([5]), stretch)

    def test_refused_by_its_form(self):
        for stretch in [(False, 1), (0, True), (0, 1, 2), (0,), (), [0, 1], (None, 1), (0, None)]:
            self.assertRaises(errors.NoStretch, best_in, kept(ROW), stretch)


class TestSumIn(unittest.TestCase):
    def check(self, held, row):
        for total, first, beyond in all_stretches(row):
            self.assertEqual(sum_in(held, (first, beyond)), total, (row, first, beyond))

    def test_each_length(self):
        for many in list(range(1, 35)) + [63, 64, 65]:
            row = mixed_row(many, many, 9)
            self.check(kept(row), row)

    def test_great_numbers(self):
        row = mixed_row(40, 2, NUMBER_OF_32_FIGURES)
        self.check(kept(row), row)

    def test_behind_changes(self):
        for row in mixed_rows(40, 20, 9):
            changes = mixed_changes(row, 9, len(row), 9)
            self.check(changed(kept(row), changes), put_plainly(row, changes))

    def test_plainly(self):
        held = kept(ROW)
        self.assertEqual(sum_in(held, (0, 6)), 9)
        self.assertEqual(sum_in(held, (1, 4)), 2)
        self.assertEqual(sum_in(held, (4, 5)), -5)
        self.assertIs(type(sum_in(held, (1, 4))), int)

    def test_refused(self):
        held = kept(ROW)
        for stretch in NO_STRETCHES:
            with self.subTest(stretch=stretch):
                with self.assertRaises(errors.TopError) as taken:
                    sum_in(held, stretch)
                self.assertIs(type(taken.exception), errors.NoStretch)
        self.assertEqual(sum_in(held, (0, 6)), 9)

    def test_refused_by_its_form(self):
        for stretch in [(False, 1), (0, True), (0, 1, 2), (0,), (), [0, 1], (None, 1), (0, None)]:
            self.assertRaises(errors.NoStretch, sum_in, kept(ROW), stretch)


class TestBestRound(unittest.TestCase):
    def check(self, held, row):
        self.assertEqual(best_round(held), best_among(all_ring_stretches(row)), row)

    def test_small_rows(self):
        for row in small_rows((-2, -1, 0, 1, 2), 5):
            self.check(kept(row), row)

    def test_small_rows_of_many_ties(self):
        for row in small_rows((-1, 0, 1), 8):
            self.check(kept(row), row)

    def test_mixed_rows(self):
        for row in mixed_rows(300, 35, 4):
            self.check(kept(row), row)

    def test_great_numbers(self):
        for seed in range(60):
            row = mixed_row(1 + seed % 19, seed, NUMBER_OF_32_FIGURES)
            self.check(kept(row), row)

    def test_behind_changes(self):
        for row in mixed_rows(80, 21, 3):
            held = kept(row)
            for change in mixed_changes(row, 8, len(row), 3):
                held = changed(held, [change])
                row = put_plainly(row, [change])
                self.check(held, row)

    def test_long_rows(self):
        row = mixed_row(700, 6, NUMBER_OF_32_FIGURES)
        self.check(kept(row), row)
        row = mixed_row(900, 7, 1)
        self.check(kept(row), row)

    def test_over_the_end_and_not(self):
        self.assertEqual(best_round(kept(ROW)), (15, 5, 4))
        self.assertEqual(best_round(kept([4, -9, 4])), (8, 2, 2))
        self.assertEqual(best_round(kept([-9, 4, 5, -9])), (9, 1, 2))
        self.assertEqual(best_round(changed(kept(ROW), [(5, -9)])), (6, 0, 3))

    def test_all_numbers(self):
        self.assertEqual(best_round(kept([2, 3, 4])), (9, 0, 3))
        self.assertEqual(best_round(kept([5, 5])), (10, 0, 2))
        self.assertEqual(best_round(changed(kept([2, -3, 4]), [(1, 3)])), (9, 0, 3))

    def test_equal_sums(self):
        self.assertEqual(best_round(kept([4, -9, 4, -9])), (4, 0, 1))
        self.assertEqual(best_round(kept([-9, 0, 4, -9])), (4, 1, 2))
        self.assertEqual(best_round(kept([4, 0, -9])), (4, 0, 1))
        self.assertEqual(best_round(kept([0, -9, 4])), (4, 2, 1))
        self.assertEqual(best_round(kept([0, 0, 0])), (0, 0, 1))
        self.assertEqual(best_round(kept([2, -9, 4, -9, 2])), (4, 2, 1))
        self.assertEqual(best_round(kept([2, -9, 2, 0, -9, 0, 2])), (4, 5, 3))

    def test_all_below_nought(self):
        self.assertEqual(best_round(kept([-3, -1, -2, -1])), (-1, 1, 1))
        self.assertEqual(best_round(kept([-1, -3])), (-1, 0, 1))

    def test_one_number(self):
        for number in [0, 7, -7, NUMBER_OF_32_FIGURES, -NUMBER_OF_32_FIGURES]:
            self.assertEqual(best_round(kept([number])), (number, 0, 1))

    def test_kinds(self):
        for row in [[5], [-1, 0, 2], ROW]:
            best = best_round(kept(row))
            self.assertIs(type(best), tuple)
            self.assertEqual([type(part) for part in best], [int, int, int])
