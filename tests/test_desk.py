import unittest

from tests.plain_walk import (
    all_apart,
    all_ring_stretches,
    all_stretches,
    best_among,
    best_of_lists,
    flat,
    mixed_row,
    mixed_rows,
)
from topstretch import errors
from topstretch.desk import Desk

ROW = [3, -1, 4, -1, -5, 9]
TEXT = "3 -1 4 -1 -5 9"
BARE = ["row", "best", "ring", "undo", "again"]
NUMBERED = {"part": 2, "length": 2, "apart": 2, "bars": 2, "must": 1}
ASKED = [
    "row", "best", "part 0 3", "part 1 5", "length 1 3", "length 2 999999", "ring", "apart 2 1", "apart 4 1",
    "bars 2 1", "bars 3 0", "must 0", "must 5",
]
NO_TEXTS = [
    "", " ", "  ", "a", "1 a", "-", "--1", "+1", "-0", "00", "01", "-01", "1  2", " 1", "1 ", "1\n", "\n1", "1\n2",
    "1 \n2", "1,2", "1.0", "1_0", "1" * 31, "-" + "1" * 31, "9" * 5000, "1 2 x", "0x1", "none",
]
NO_FIGURES = [
    "", "-", "-1", "+1", "-0", "00", "01", "000001", "0000000", "1234567", "1000000", "9" * 31, "9" * 5000, "a", "1a",
    "x", "1.0", "1_0", "0x1", "1\n", "\n1", "\n", "1,", "none", "'1'",
]
NO_NUMBERS = [
    "", "-", "--1", "+1", "-0", "00", "01", "-01", "1" * 31, "-" + "1" * 31, "9" * 5000, "a", "1a", "1.0", "1_0",
    "1\n", "\n1", "\n", "1-", "none",
]
UNKNOWN = [
    "", " ", "  ", "\n", "x", "Row", "ROW", "rows", "ro", "Best", "BEST", "bests", "puts", "redo", "lay", "rings",
    "musts", "none", "1", "-1", "1 2 3", "best\n", "\nbest", "row\n", "\nrow", "undo\n", "again\n", "ring\n",
    "row\n1 2", "best\nring", "best,", "best;ring", "say best", "help", "held", "earlier", "undone", "__init__",
    "un do", "best best", "row row", "undo again", "undo undo", "ring ring", "best none", "row none",
]


def line(numbers):
    return " ".join(f"{number}" for number in numbers)


def laid(row):
    desk = Desk()
    desk.say("row " + line(row))
    return desk


def asked(desk, asks):
    """The answers, and where there are none the classes of the refusals."""
    told = []
    for ask in asks:
        try:
            told.append(desk.say(ask))
        except errors.TopError as refusal:
            told.append(type(refusal))
    return told


def best_plainly(row):
    return best_among(all_stretches(row))


def must_plainly(row, place):
    """The least number by stepping up from one that is far too low."""
    if len(row) == 1:
        return "none"
    number = -sum(abs(one) for one in row) - 1
    while True:
        now = row[:place] + [number] + row[place + 1:]
        stretches = all_stretches(now)
        most = best_among(stretches)[0]
        if any(total == most and first <= place < beyond for total, first, beyond in stretches):
            return f"{number}"
        number += 1


class DeskCase(unittest.TestCase):
    def check_refused(self, desk, ask, refusal):
        with self.subTest(ask=ask[:80]):
            with self.assertRaises(errors.TopError) as taken:
                desk.say(ask)
            self.assertIs(type(taken.exception), refusal)

    def check_answers(self, desk, row):
        """All answers against plain walks over the row as it should stand."""
        many = len(row)
        self.assertEqual(desk.say("row"), line(row))
        self.assertEqual(desk.say("best"), line(best_plainly(row)))
        self.assertEqual(desk.say("ring"), line(best_among(all_ring_stretches(row))))
        for first in range(many):
            self.assertEqual(desk.say(f"must {first}"), must_plainly(row, first))
            for beyond in range(first + 1, many + 1):
                inner = [one for one in all_stretches(row) if first <= one[1] and one[2] <= beyond]
                self.assertEqual(desk.say(f"part {first} {beyond}"), line(best_among(inner)))
        for least in range(1, many + 1):
            for most in [least, many, many + 1, 999999]:
                due = best_among(all_stretches(row, least, most))
                self.assertEqual(desk.say(f"length {least} {most}"), line(due))
        for count in range(1, 4):
            for gap in [0, 1, 2, 999999]:
                self.check_several(desk, row, count, gap)

    def check_several(self, desk, row, count, gap):
        best = best_of_lists(all_apart(row, count, gap))
        if best is None:
            self.assertEqual(desk.say(f"apart {count} {gap}"), "none")
            self.check_refused(desk, f"bars {count} {gap}", errors.NoCount)
        else:
            self.assertEqual(desk.say(f"apart {count} {gap}"), line([best[0]] + flat(best[1])))
            self.assertEqual(desk.say(f"bars {count} {gap}"), f"{best[0]}")


class TestAnswers(DeskCase):
    def test_plainly(self):
        desk = Desk()
        for ask, due in [
            ("row " + TEXT, "6"),
            ("row", TEXT),
            ("best", "9 0 6"),
            ("part 0 3", "6 0 3"),
            ("part 1 6", "9 5 6"),
            ("length 1 3", "9 5 6"),
            ("length 2 2", "4 4 6"),
            ("ring", "15 5 4"),
            ("apart 1 0", "9 0 6"),
            ("apart 2 1", "15 0 3 5 6"),
            ("apart 3 1", "16 0 1 2 3 5 6"),
            ("apart 4 1", "none"),
            ("bars 2 1", "15"),
            ("bars 1 999999", "9"),
            ("must 0", "3"),
            ("must 5", "6"),
            ("put 4 5", "19"),
            ("row", "3 -1 4 -1 5 9"),
            ("best", "19 0 6"),
            ("undo", "9"),
            ("row", TEXT),
            ("again", "19"),
            ("row", "3 -1 4 -1 5 9"),
            ("put 0 -7 5 -9 0 -8", "8"),
            ("row", "-8 -1 4 -1 5 -9"),
            ("best", "8 2 5"),
        ]:
            self.assertEqual(desk.say(ask), due, ask)

    def test_answers_are_texts(self):
        desk = laid(ROW)
        for ask in ASKED + ["put 0 1", "undo", "again", "row 5"]:
            self.assertIs(type(desk.say(ask)), str, ask)

    def test_mixed_rows(self):
        for row in mixed_rows(14, 7, 4):
            desk = Desk()
            self.assertEqual(desk.say("row " + line(row)), f"{len(row)}")
            self.check_answers(desk, row)

    def test_one_number(self):
        for number in [0, 5, -5]:
            desk = Desk()
            self.assertEqual(desk.say(f"row {number}"), "1")
            self.assertEqual(desk.say("row"), f"{number}")
            self.assertEqual(desk.say("best"), f"{number} 0 1")
            self.assertEqual(desk.say("ring"), f"{number} 0 1")
            self.assertEqual(desk.say("part 0 1"), f"{number} 0 1")
            self.assertEqual(desk.say("length 1 1"), f"{number} 0 1")
            self.assertEqual(desk.say("apart 1 0"), f"{number} 0 1")
            self.assertEqual(desk.say("apart 2 0"), "none")
            self.assertEqual(desk.say("bars 1 0"), f"{number}")
            self.assertEqual(desk.say("must 0"), "none")
            self.assertEqual(desk.say("put 0 77"), "77")
            self.assertEqual(desk.say("undo"), f"{number}")

    def test_great_numbers(self):
        great = 10 ** 30 - 1
        desk = Desk()
        self.assertEqual(desk.say(f"row {great} {great} -{great}"), "3")
        self.assertEqual(desk.say("best"), f"{2 * great} 0 2")
        self.assertEqual(desk.say(f"put 2 {great}"), f"{3 * great}")
        self.assertEqual(desk.say("must 1"), f"-{great}")
        self.assertEqual(desk.say("row"), f"{great} {great} {great}")
        self.assertEqual(desk.say(f"put 0 -{great} 1 -{great} 2 -{great}"), f"-{great}")
        self.assertEqual(desk.say("apart 2 0"), f"-{2 * great} 0 1 1 2")

    def test_a_row_of_forty(self):
        row = mixed_row(40, 3, 10 ** 30 - 1)
        desk = Desk()
        self.assertEqual(desk.say("row " + line(row)), "40")
        self.assertEqual(desk.say("row"), line(row))
        self.assertEqual(desk.say("best"), line(best_plainly(row)))
        self.assertEqual(desk.say("ring"), line(best_among(all_ring_stretches(row))))
        self.assertEqual(desk.say("length 7 9"), line(best_among(all_stretches(row, 7, 9))))
        best = best_of_lists(all_apart(row, 2, 3))
        self.assertEqual(desk.say("apart 2 3"), line([best[0]] + flat(best[1])))
        self.assertEqual(desk.say("bars 2 3"), f"{best[0]}")
        self.assertEqual(desk.say("apart 40 0"), line([sum(row)] + flat([(one, one + 1) for one in range(40)])))
        self.assertEqual(desk.say("apart 41 0"), "none")
        self.assertEqual(desk.say("apart 999999 999999"), "none")
        self.assertEqual(desk.say("bars 12 0"), desk.say("apart 12 0").split(" ")[0])
        self.check_refused(desk, "bars 999999 0", errors.NoCount)

    def test_the_most_figures(self):
        desk = laid(ROW)
        self.assertEqual(desk.say("length 1 999999"), "9 0 6")
        self.assertEqual(desk.say("length 1 100000"), "9 0 6")
        self.assertEqual(desk.say("apart 1 999999"), "9 0 6")
        self.assertEqual(desk.say("apart 999999 0"), "none")

    def test_asking_changes_nothing(self):
        desk = laid(ROW)
        desk.say("put 0 8")
        desk.say("put 1 7")
        desk.say("undo")
        due = asked(desk, ASKED)
        for _ in range(3):
            self.assertEqual(asked(desk, ASKED), due)
        self.assertEqual(desk.say("again"), "22")
        self.assertEqual(desk.say("row"), "8 7 4 -1 -5 9")


class TestRounds(DeskCase):
    def test_answers_behind_rounds(self):
        for seed in range(4):
            row = mixed_row(6, seed, 4)
            desk = laid(row)
            rows = [row]
            for turn in range(3):
                places = [abs(one) % 6 for one in mixed_row(turn + 1, seed + turn, 50)]
                numbers = mixed_row(turn + 1, seed + turn + 9, 4)
                row = list(row)
                ask = "put"
                for place, number in zip(places, numbers):
                    row[place] = number
                    ask += f" {place} {number}"
                self.assertEqual(desk.say(ask), f"{best_plainly(row)[0]}")
                self.check_answers(desk, row)
                rows.append(row)
            for earlier in rows[2::-1]:
                self.assertEqual(desk.say("undo"), f"{best_plainly(earlier)[0]}")
                self.check_answers(desk, earlier)
            for later in rows[1:]:
                self.assertEqual(desk.say("again"), f"{best_plainly(later)[0]}")
                self.check_answers(desk, later)

    def test_twenty_pairs(self):
        desk = laid([0] * 40)
        ask = "put " + " ".join(f"{2 * turn} {turn + 1}" for turn in range(20))
        self.assertEqual(desk.say(ask), "210")
        row = [0] * 40
        for turn in range(20):
            row[2 * turn] = turn + 1
        self.assertEqual(desk.say("row"), line(row))
        self.assertEqual(desk.say("undo"), "0")
        self.assertEqual(desk.say("row"), line([0] * 40))
        self.check_refused(desk, "undo", errors.NoRound)
        self.assertEqual(desk.say("again"), "210")
        self.check_refused(desk, "again", errors.NoRound)

    def test_the_same_place_twice_in_one_round(self):
        desk = laid(ROW)
        self.assertEqual(desk.say("put 0 50 0 -50"), "9")
        self.assertEqual(desk.say("row"), "-50 -1 4 -1 -5 9")
        self.assertEqual(desk.say("undo"), "9")
        self.assertEqual(desk.say("row"), TEXT)
        self.assertEqual(desk.say("put 1 5 2 5 1 6"), "17")
        self.assertEqual(desk.say("row"), "3 6 5 -1 -5 9")
        self.assertEqual(desk.say("undo"), "9")
        self.assertEqual(desk.say("put " + " ".join(["3 8"] * 19 + ["3 7"])), "17")
        self.assertEqual(desk.say("row"), "3 -1 4 7 -5 9")

    def test_a_round_of_no_difference_is_a_round(self):
        desk = laid(ROW)
        self.assertEqual(desk.say("put 0 3"), "9")
        self.assertEqual(desk.say("put 0 3 1 -1"), "9")
        self.assertEqual(desk.say("undo"), "9")
        self.assertEqual(desk.say("undo"), "9")
        self.check_refused(desk, "undo", errors.NoRound)
        self.assertEqual(desk.say("again"), "9")
        self.assertEqual(desk.say("again"), "9")
        self.check_refused(desk, "again", errors.NoRound)

    def test_undo_and_again_many_times(self):
        desk = laid([0, 0, 0])
        for number in range(1, 41):
            self.assertEqual(desk.say(f"put 1 {number}"), f"{number}")
        for _ in range(2):
            for number in range(39, -1, -1):
                self.assertEqual(desk.say("undo"), f"{number}")
                self.assertEqual(desk.say("row"), f"0 {number} 0")
            self.check_refused(desk, "undo", errors.NoRound)
            for number in range(1, 41):
                self.assertEqual(desk.say("again"), f"{number}")
                self.assertEqual(desk.say("row"), f"0 {number} 0")
            self.check_refused(desk, "again", errors.NoRound)

    def test_to_and_fro(self):
        desk = laid([0])
        for number in [1, 2, 3]:
            desk.say(f"put 0 {number}")
        due = "2 1 2 3 2 1 0 1 2 1".split(" ")
        asks = "undo undo again again undo undo undo again again undo".split(" ")
        self.assertEqual([desk.say(ask) for ask in asks], due)

    def test_a_new_round_forgets_the_undone_ones(self):
        desk = laid([0])
        for number in [1, 2, 3]:
            desk.say(f"put 0 {number}")
        desk.say("undo")
        desk.say("undo")
        self.assertEqual(desk.say("put 0 9"), "9")
        self.check_refused(desk, "again", errors.NoRound)
        self.assertEqual(desk.say("undo"), "1")
        self.assertEqual(desk.say("again"), "9")
        self.check_refused(desk, "again", errors.NoRound)
        self.assertEqual([desk.say("undo"), desk.say("undo")], ["1", "0"])
        self.check_refused(desk, "undo", errors.NoRound)

    def test_a_refused_round_forgets_nothing(self):
        desk = laid([0])
        desk.say("put 0 1")
        desk.say("put 0 2")
        desk.say("undo")
        for ask, refusal in [
            ("put 1 5", errors.NoPlace), ("put 0 7 1 5", errors.NoPlace), ("put 0", errors.NoShape),
            ("put 0 7 0", errors.NoShape), ("put 0 -0", errors.NoShape),
        ]:
            self.check_refused(desk, ask, refusal)
            self.assertEqual(desk.say("row"), "1")
        self.assertEqual(desk.say("again"), "2")
        self.assertEqual([desk.say("undo"), desk.say("undo")], ["1", "0"])

    def test_another_row_forgets_the_rounds(self):
        desk = laid(ROW)
        desk.say("put 0 1")
        desk.say("put 0 2")
        desk.say("undo")
        self.assertEqual(desk.say("row 7 8"), "2")
        self.check_refused(desk, "undo", errors.NoRound)
        self.check_refused(desk, "again", errors.NoRound)
        self.assertEqual(desk.say("row"), "7 8")
        self.assertEqual(desk.say("best"), "15 0 2")
        self.check_refused(desk, "put 5 1", errors.NoPlace)
        self.assertEqual(desk.say("put 1 -8"), "7")
        self.assertEqual(desk.say("undo"), "15")
        self.check_refused(desk, "undo", errors.NoRound)

    def test_the_same_row_again_forgets_the_rounds_too(self):
        desk = laid(ROW)
        desk.say("put 0 1")
        self.assertEqual(desk.say("row " + TEXT), "6")
        self.check_refused(desk, "undo", errors.NoRound)
        desk.say("put 0 1")
        desk.say("undo")
        self.assertEqual(desk.say("row " + desk.say("row")), "6")
        self.check_refused(desk, "again", errors.NoRound)

    def test_a_refused_row_forgets_nothing(self):
        desk = laid(ROW)
        desk.say("put 0 1")
        desk.say("put 0 2")
        desk.say("undo")
        for text in NO_TEXTS:
            self.check_refused(desk, "row " + text, errors.NoShape)
        self.assertEqual(desk.say("row"), "1 -1 4 -1 -5 9")
        self.assertEqual(desk.say("again"), "9")
        self.assertEqual(desk.say("row"), "2 -1 4 -1 -5 9")
        self.assertEqual([desk.say("undo"), desk.say("undo")], ["9", "9"])
        self.assertEqual(desk.say("row"), TEXT)

    def test_desks_know_nothing_of_one_another(self):
        one = laid([1, 2])
        other = Desk()
        self.check_refused(other, "best", errors.NoneYet)
        one.say("put 0 5")
        other.say("row 8")
        self.check_refused(other, "undo", errors.NoRound)
        self.assertEqual(one.say("undo"), "3")
        self.check_refused(other, "again", errors.NoRound)
        self.assertEqual(other.say("row"), "8")
        self.assertEqual(one.say("again"), "7")


class TestNoShape(DeskCase):
    def wrong_shapes(self):
        yield from UNKNOWN
        for text in NO_TEXTS:
            yield "row " + text
        for word in BARE:
            yield from [" " + word, word + " ", "  " + word, word + "  ", word + "\n", "\n" + word, word.upper()]
            if word != "row":
                yield from [word + " 0", word + " 1 2", word + " x", word + "0"]
        for word, many in NUMBERED.items():
            for wrong in range(5):
                if wrong != many:
                    yield " ".join([word] + ["1"] * wrong)
            right = " ".join([word] + ["1"] * many)
            yield from [" " + right, right + " ", right.replace(" ", "  "), right + "\n", "\n" + right, right.upper()]
            yield from [right.replace(" ", "\n"), right.replace(" ", ","), right.replace(" ", "")]
            for figures in NO_FIGURES:
                for place in range(many):
                    words = ["1"] * many
                    words[place] = figures
                    yield " ".join([word] + words)
        yield from self.wrong_puts()

    def wrong_puts(self):
        yield from ["put", "put ", "put 0", "put 0 1 2", "put 0 1 2 3 4", "put " + " ".join(["0 1"] * 21)]
        yield from ["put " + " ".join(["0 1"] * 20 + ["0"]), "put " + " ".join(["0 1"] * 400)]
        yield from [" put 0 1", "put 0 1 ", "put  0 1", "put 0  1", "put 0 1  1 1", "put 0 1\n", "\nput 0 1"]
        yield from ["put 0 1 \n 1 1", "put\n0 1", "PUT 0 1", "put (0, 1)", "put 0,1", "put none 1", "put 0 none"]
        for figures in NO_FIGURES:
            yield from [f"put {figures} 1", f"put 0 1 {figures} 1", f"put {figures} 1 0 1"]
        for number in NO_NUMBERS:
            yield from [f"put 0 {number}", f"put 0 1 1 {number}", f"put 0 {number} 1 1"]

    def test_without_a_row(self):
        for ask in self.wrong_shapes():
            desk = Desk()
            self.check_refused(desk, ask, errors.NoShape)
            self.check_refused(desk, "best", errors.NoneYet)

    def test_with_a_row_and_rounds(self):
        desk = laid(ROW)
        desk.say("put 0 50")
        desk.say("put 1 60")
        desk.say("undo")
        due = asked(desk, ASKED)
        for ask in self.wrong_shapes():
            self.check_refused(desk, ask, errors.NoShape)
            self.assertEqual(desk.say("row"), "50 -1 4 -1 -5 9")
        self.assertEqual(asked(desk, ASKED), due)
        self.assertEqual(desk.say("again"), "117")
        self.assertEqual([desk.say("undo"), desk.say("undo")], ["56", "9"])
        self.check_refused(desk, "undo", errors.NoRound)

    def test_right_shapes_beside_the_wrong_ones(self):
        desk = laid(ROW)
        for ask in [
            "put 0 -1", "put 0 0", "put 0 " + "9" * 30, "put 0 -" + "9" * 30, "put " + " ".join(["0 3"] * 20),
            "part 0 1", "length 1 999999", "apart 1 0", "apart 1 100000", "bars 1 0", "must 0", "must 5",
        ]:
            self.assertIs(type(desk.say(ask)), str, ask)


class TestOtherRefusals(DeskCase):
    def test_none_yet(self):
        desk = Desk()
        for ask in BARE + [
            "put 0 1", "put 999999 1", "part 0 1", "part 1 0", "part 5 999999", "length 1 1", "length 0 0", "length 2 1",
            "apart 1 0", "apart 0 0", "bars 1 0", "bars 0 0", "bars 999999 999999", "must 0", "must 999999",
        ]:
            self.check_refused(desk, ask, errors.NoneYet)
        self.check_refused(desk, "row x", errors.NoShape)
        self.check_refused(desk, "row", errors.NoneYet)
        self.assertEqual(desk.say("row 5"), "1")
        self.assertEqual(desk.say("best"), "5 0 1")

    def test_no_round(self):
        desk = laid(ROW)
        for _ in range(2):
            self.check_refused(desk, "undo", errors.NoRound)
            self.check_refused(desk, "again", errors.NoRound)
            self.assertEqual(desk.say("row"), TEXT)
        desk.say("put 0 1")
        self.check_refused(desk, "again", errors.NoRound)
        desk.say("undo")
        self.check_refused(desk, "undo", errors.NoRound)
        self.assertEqual(desk.say("again"), "9")
        self.assertEqual(desk.say("row"), "1 -1 4 -1 -5 9")

    def refusals(self):
        for place in [6, 7, 100000, 999999]:
            yield f"put {place} 1", errors.NoPlace
            yield f"put {place} 1 0 5 1 5", errors.NoPlace
            yield f"put 0 5 {place} 1 1 5", errors.NoPlace
            yield f"put 0 5 1 5 {place} 1", errors.NoPlace
            yield f"must {place}", errors.NoPlace
        for part in ["0 0", "6 6", "3 3", "3 2", "5 0", "0 7", "5 7", "6 7", "7 8", "0 999999", "999999 0", "999999 999999"]:
            yield f"part {part}", errors.NoStretch
        for lengths in ["0 0", "0 1", "0 6", "1 0", "2 1", "6 5", "7 7", "7 6", "7 999999", "999999 999999", "999999 0"]:
            yield f"length {lengths}", errors.NoLength
        for count in ["0 0", "0 1", "0 999999"]:
            yield f"apart {count}", errors.NoCount
            yield f"bars {count}", errors.NoCount
        for count in ["7 0", "4 1", "3 2", "2 5", "2 999999", "999999 0", "999999 999999", "13 0"]:
            yield f"bars {count}", errors.NoCount

    def test_what_the_stages_refuse(self):
        desk = laid(ROW)
        desk.say("put 0 50")
        desk.say("put 1 60")
        desk.say("undo")
        due = asked(desk, ASKED)
        for ask, refusal in self.refusals():
            self.check_refused(desk, ask, refusal)
            self.assertEqual(desk.say("row"), "50 -1 4 -1 -5 9")
            self.assertEqual(desk.say("best"), "56 0 6")
        self.assertEqual(asked(desk, ASKED), due)
        self.assertEqual(desk.say("again"), "117")
        self.assertEqual([desk.say("undo"), desk.say("undo")], ["56", "9"])
        self.check_refused(desk, "undo", errors.NoRound)

    def test_behind_each_refusal_it_answers_as_if_not_asked(self):
        for ask, refusal in self.refusals():
            desk = laid(ROW)
            self.check_refused(desk, ask, refusal)
            self.check_refused(desk, "undo", errors.NoRound)
            self.check_refused(desk, "again", errors.NoRound)
            self.assertEqual(asked(desk, ASKED), asked(laid(ROW), ASKED))

    def test_just_what_has_room(self):
        desk = laid(ROW)
        for count in ["6 0", "3 1", "2 2", "2 4", "1 999999"]:
            self.assertIs(type(desk.say(f"bars {count}")), str)
            self.assertNotEqual(desk.say(f"apart {count}"), "none")
        for count in ["7 0", "4 1", "3 2", "2 5", "2 999999"]:
            self.assertEqual(desk.say(f"apart {count}"), "none")
            self.check_refused(desk, f"bars {count}", errors.NoCount)

    def test_in_a_row_of_one_number(self):
        desk = laid([5])
        self.check_refused(desk, "must 1", errors.NoPlace)
        self.check_refused(desk, "put 1 1", errors.NoPlace)
        self.check_refused(desk, "part 0 2", errors.NoStretch)
        self.check_refused(desk, "length 2 2", errors.NoLength)
        self.check_refused(desk, "bars 2 0", errors.NoCount)
        self.assertEqual(desk.say("must 0"), "none")

    def test_the_first_that_is_due(self):
        fresh = Desk()
        self.check_refused(fresh, "undo 1", errors.NoShape)
        self.check_refused(fresh, "undo", errors.NoneYet)
        self.check_refused(fresh, "must 01", errors.NoShape)
        self.check_refused(fresh, "must 9", errors.NoneYet)
        self.check_refused(fresh, "bars 0 -1", errors.NoShape)
        self.check_refused(fresh, "bars 0 1", errors.NoneYet)
        desk = laid(ROW)
        self.check_refused(desk, "again 1", errors.NoShape)
        self.check_refused(desk, "again", errors.NoRound)
        self.check_refused(desk, "put 9 1 0 -0", errors.NoShape)
        self.check_refused(desk, "put 9 1 0", errors.NoShape)
        self.check_refused(desk, "put 9 1", errors.NoPlace)
        self.check_refused(desk, "part 9 1000000", errors.NoShape)
        self.check_refused(desk, "length 0 x", errors.NoShape)
        self.check_refused(desk, "apart 0 00", errors.NoShape)
