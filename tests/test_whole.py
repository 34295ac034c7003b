"""What the document promises over the whole program, across its modules."""

import inspect
import unittest
from importlib import import_module

from tests.plain_walk import NUMBER_OF_32_FIGURES, flat, mixed_changes, mixed_row, mixed_rows
from topstretch import errors
from topstretch.desk import Desk
from topstretch.halves import best_in, best_round, changed, kept, row_of, sum_in
from topstretch.must import must_be, places_in_best
from topstretch.papers import several_paper
from topstretch.plain import best_of, stretch_sum
from topstretch.rings import best_ring
from topstretch.several import best_apart
from topstretch.sized import best_sized
from topstretch.texts import read_row, shown_row

INTERFACE = {
    "plain": ["stretch_sum(row, stretch)", "best_of(row)", "sums_ahead(row)"],
    "sized": [
        "best_sized(row, least, most)", "how_many_just(row, least, most, told)", "how_many_above(row, least, most, told)",
    ],
    "rings": ["ring_sum(ring, first, many)", "best_ring(ring)", "best_ring_sized(ring, least, most)"],
    "several": ["best_apart(row, many, gap)", "best_at_most(row, many, gap)"],
    "papers": [
        "paper_of(row)", "paper_shows(row, paper)", "bound_of(paper)", "several_paper(row, many, gap)",
        "several_shows(row, many, gap, paper)", "ring_shows(ring, paper)",
    ],
    "halves": [
        "kept(row)", "row_of(held)", "changed(held, changes)", "best_in(held, stretch)", "sum_in(held, stretch)",
        "best_round(held)",
    ],
    "must": ["must_be(held, place)", "places_in_best(held)"],
    "texts": ["shown_row(row)", "read_row(text)"],
    "desk": ["Desk()"],
    "held": [
        "fewest_holding(row, most)", "holds_row(row, most, stretches)", "far_places(row, most)",
        "are_far(row, most, places)", "best_few_below(row, many)",
    ],
}
LONG = [mixed_row(3000, 41, NUMBER_OF_32_FIGURES), mixed_row(2999, 42, 1), [-1] * 2500, [0] * 3000]


def some_parts(many):
    """All parts of short rows; of long ones those near the ends, the halves, and some between."""
    if many <= 20:
        ends = list(range(many + 1))
    else:
        ends = [0, 1, 2, many // 4, many // 2 - 1, many // 2, many // 2 + 1, 2 * many // 3, many - 1, many]
    return [(first, beyond) for first in ends for beyond in ends if first < beyond]


class TestInterface(unittest.TestCase):
    def test_names_and_arguments(self):
        for module, forms in INTERFACE.items():
            home = import_module("topstretch." + module)
            for form in forms:
                name, _, rest = form.partition("(")
                with self.subTest(module=module, name=name):
                    self.assertEqual(str(inspect.signature(getattr(home, name))), "(" + rest)

    def test_the_desk_is_a_class(self):
        self.assertTrue(inspect.isclass(Desk))
        self.assertEqual(str(inspect.signature(Desk.say)), "(self, row)")


class TestKeptInHalves(unittest.TestCase):
    def check(self, held, row):
        self.assertEqual(row_of(held), row)
        self.assertEqual(held, kept(row))
        self.assertEqual(best_round(held), best_ring(row))
        self.assertEqual(best_in(held, (0, len(row))), best_of(row))
        for first, beyond in some_parts(len(row)):
            best = best_of(row[first:beyond])
            self.assertEqual(best_in(held, (first, beyond)), (best[0], first + best[1], first + best[2]))
            self.assertEqual(sum_in(held, (first, beyond)), stretch_sum(row, (first, beyond)))

    def check_behind_changes(self, row, changes):
        held = kept(row)
        now = list(row)
        self.check(held, now)
        for place, number in changes:
            held = changed(held, [(place, number)])
            now[place] = number
            self.check(held, now)
        self.assertEqual(changed(kept(row), changes), held)

    def test_rows_of_each_length(self):
        for row in mixed_rows(60, 20, 3):
            self.check_behind_changes(row, mixed_changes(row, 5, len(row), 3))

    def test_rows_of_some_hundreds(self):
        for many in [127, 128, 129, 300, 513]:
            row = mixed_row(many, many, 10 ** 30 - 1)
            self.check_behind_changes(row, mixed_changes(row, 6, many, 10 ** 30 - 1))

    def test_long_rows(self):
        for row in LONG:
            self.check_behind_changes(row, mixed_changes(row, 3, 43, 5) + [(0, 4), (len(row) - 1, 4)])

    def test_a_number_below_the_told_one_leaves_the_place_out(self):
        for row in mixed_rows(60, 40, 6):
            held = kept(row)
            for place in range(len(row)):
                told = must_be(held, place)
                if len(row) == 1:
                    self.assertIsNone(told)
                    continue
                for number, lets in [(told, True), (told + 1, True), (told + 99, True), (told - 1, False)]:
                    places = places_in_best(changed(held, [(place, number)]))
                    self.assertIs(place in places, lets, (row, place, number))

    def test_a_long_row_and_what_places_must_be(self):
        held = kept(LONG[0])
        for place in [0, 1, 777, 1499, 1500, 2998, 2999]:
            told = must_be(held, place)
            self.assertIn(place, places_in_best(changed(held, [(place, told)])))
            self.assertNotIn(place, places_in_best(changed(held, [(place, told - 1)])))


class TestDeskAndStages(unittest.TestCase):
    def told(self, ask, *handed):
        try:
            return ask(*handed)
        except errors.TopError as refusal:
            return type(refusal)

    def check_answer(self, desk, asked, due):
        """Due are numbers, a class of refusals, or None."""
        answer = self.told(desk.say, asked)
        if due is None:
            self.assertEqual(answer, "none", asked)
        elif isinstance(due, type):
            self.assertIs(answer, due, asked)
        else:
            self.assertEqual(answer, " ".join(f"{number}" for number in due), asked)

    def check(self, desk, row):
        held = kept(row)
        self.check_answer(desk, "row", row)
        self.check_answer(desk, "best", best_of(row))
        self.check_answer(desk, "ring", best_ring(row))
        for one in [0, 1, 2, 3, 7, 12, len(row) - 1, len(row), len(row) + 1, 999999]:
            must = self.told(must_be, held, one)
            self.check_answer(desk, f"must {one}", [must] if type(must) is int else must)
            for other in [0, 1, 2, 5, len(row), len(row) + 1, 999999]:
                self.check_answer(desk, f"part {one} {other}", self.told(best_in, held, (one, other)))
                self.check_answer(desk, f"length {one} {other}", self.told(best_sized, row, one, other))
                apart = self.told(best_apart, row, one, other)
                self.check_answer(desk, f"apart {one} {other}",
                                  [apart[0]] + flat(apart[1]) if type(apart) is tuple else apart)
                if one <= 13:
                    paper = self.told(several_paper, row, one, other)
                    bound = [paper[one][len(row)]] if type(paper) is list else paper
                    self.check_answer(desk, f"bars {one} {other}", errors.NoCount if bound == [None] else bound)

    def test_with_and_without_rounds(self):
        for many, spread in [(1, 5), (2, 3), (5, 2), (13, 9), (27, 1), (40, 10 ** 30 - 1)]:
            row = mixed_row(many, many, spread)
            desk = Desk()
            self.assertEqual(desk.say("row " + shown_row(row)), f"{many}")
            self.check(desk, row)
            now = kept(row)
            for turn in range(3):
                changes = mixed_changes(row, 1 + 6 * turn, turn, spread)
                now = changed(now, changes)
                asked = "put " + " ".join(f"{place} {number}" for place, number in changes)
                self.check_answer(desk, asked, [best_of(row_of(now))[0]])
                self.check(desk, row_of(now))
            for _ in range(3):
                desk.say("undo")
            self.check(desk, row)
            for _ in range(3):
                desk.say("again")
            self.check(desk, row_of(now))


class TestHandedInAndTold(unittest.TestCase):
    ROW = [3, -1, 4, -1, -5, 9]
    CHANGES = [(0, 4), (5, -2), (0, 3)]
    ASKS = [
        (kept, (ROW,)),
        (row_of, (kept(ROW),)),
        (changed, (kept(ROW), CHANGES)),
        (changed, (kept(ROW), [])),
        (changed, (kept(ROW), [(0, 7), (6, 1)])),
        (changed, (kept(ROW), [(-1, 7), (0, 1)])),
        (best_in, (kept(ROW), (1, 5))),
        (best_in, (kept(ROW), (5, 1))),
        (sum_in, (kept(ROW), (1, 5))),
        (sum_in, (kept(ROW), (0, 7))),
        (best_round, (kept(ROW),)),
        (must_be, (kept(ROW), 3)),
        (must_be, (kept(ROW), 6)),
        (places_in_best, (kept(ROW),)),
        (shown_row, (ROW,)),
        (read_row, ("3 -1 4",)),
        (read_row, ("3 -0 4",)),
    ]

    def copy_of(self, thing):
        return list(thing) if type(thing) is list else thing

    def told(self, ask, handed):
        try:
            return ask(*handed)
        except errors.TopError as refusal:
            return type(refusal)

    def test_what_is_handed_in_stays_and_the_answer_too(self):
        for ask, handed in self.ASKS:
            with self.subTest(ask=ask.__name__, handed=str(handed)[-30:]):
                mine = [self.copy_of(one) for one in handed]
                told = self.told(ask, mine)
                self.assertEqual(mine, list(handed))
                due = self.copy_of(told)
                if type(told) is list:
                    told[0] = "changed"
                    told.append("more")
                self.assertEqual(self.told(ask, mine), due)
                self.assertEqual(mine, list(handed))

    def test_what_was_handed_in_may_be_changed_behind_it(self):
        for ask, handed in self.ASKS:
            with self.subTest(ask=ask.__name__, handed=str(handed)[-30:]):
                mine = [self.copy_of(one) for one in handed]
                told = self.told(ask, mine)
                due = self.told(ask, handed)
                for one in mine:
                    if type(one) is list:
                        one.clear()
                self.assertEqual(told, due)
                self.assertEqual(self.told(ask, handed), due)
