import unittest

from tests.plain_walk import FAR, NUMBER_OF_32_FIGURES, mixed_row, mixed_rows, small_rows
from topstretch import errors
from topstretch.texts import read_row, shown_row

SIGNS = [chr(code) for code in range(32, 127) if chr(code) != "%"] + ["\n"]
NO_WORDS = ["", " ", "  ", "\n", "\n\n", " \n "]
BLANKS = [" 1", "1 ", " 1 ", "1  2", "1   2", "  1", "1  ", "1 2 ", " 1 2", "1 2  3", "- 1", "1 - 2", " -1", "-1 "]
LINE_FEEDS = ["\n1", "1\n", "1\n2", "1 \n2", "1\n 2", "1 2\n", "\n 1", "1 \n", "1 \n 2", "-\n1", "1\n\n"]
NOUGHTS_AHEAD = ["00", "01", "-01", "007", "1 02", "02 1", "-00", "000", "1 00 1", "-007", "0" * 30, "0" * 29 + "1"]
NOUGHT_WITH_A_SIGN = ["-0", "1 -0", "-0 1", "1 -0 1", "+0"]
WRONG_SIGNS = ["--1", "+1", "-", "--", "1-", "1-2", "-+1", "+-1", "---1", "1 --1", "1 - 1", "-1-", "1 -", "- 1", "+"]
OTHER_WORDS = [
    "a", "one", "1a", "a1", "1 a", "a 1", "x 1 y", "1e3", "1E3", "0x1", "0b1", "1_0", "1_000", "1,2", "1, 2", "1.0",
    "1.", ".1", "1;2", "1\t2", "None", "True", "none", "row 1", "[1, 2]", "(1)", "'1'", "1/2", "1 2 three", "1L", "l",
    "O", "1 O",
]
TOO_MANY_FIGURES = [
    "1" * 31, "-" + "1" * 31, "1" * 32, "9" * 31, "1" + "0" * 30, "-1" + "0" * 30, "1 " + "2" * 31, "2" * 31 + " 1",
    "1 " + "2" * 31 + " 3", "1" * 4000, "1" * 4300, "1" * 4301, "9" * 5000, "-" + "9" * 5000, "1" * 32000,
    "1 " + "7" * 6000 + " 1", "0" * 5000,
]
NO_TEXTS = (
    NO_WORDS + BLANKS + LINE_FEEDS + NOUGHTS_AHEAD + NOUGHT_WITH_A_SIGN + WRONG_SIGNS + OTHER_WORDS + TOO_MANY_FIGURES
)


class TestShownRow(unittest.TestCase):
    def test_plainly(self):
        self.assertEqual(shown_row([3, -1, 4, 0, -5, 9]), "3 -1 4 0 -5 9")

    def test_one_number(self):
        for number, text in [(0, "0"), (7, "7"), (-7, "-7"), (10, "10"), (-100, "-100"), (1234567890, "1234567890")]:
            self.assertEqual(shown_row([number]), text)

    def test_great_numbers(self):
        self.assertEqual(shown_row([10 ** 29, -(10 ** 29)]), "1" + "0" * 29 + " -1" + "0" * 29)
        self.assertEqual(shown_row([10 ** 30 - 1, -(10 ** 30) + 1]), "9" * 30 + " -" + "9" * 30)

    def test_more_than_thirty_figures(self):
        self.assertEqual(shown_row([10 ** 30]), "1" + "0" * 30)
        self.assertEqual(shown_row([1, NUMBER_OF_32_FIGURES, -NUMBER_OF_32_FIGURES]), f"1 {'9' * 32} -{'9' * 32}")

    def test_a_long_row(self):
        row = mixed_row(1000, 1, 10 ** 30 - 1)
        self.assertEqual(shown_row(row).split(" "), [f"{number}" for number in row])

    def test_it_is_a_text(self):
        self.assertIs(type(shown_row([1, 2])), str)
        self.assertIs(type(shown_row([1])), str)


class TestReadRow(unittest.TestCase):
    def check_refused(self, text):
        with self.subTest(text=text[:60]):
            with self.assertRaises(errors.TopError) as taken:
                read_row(text)
            self.assertIs(type(taken.exception), errors.NoText)

    def test_plainly(self):
        self.assertEqual(read_row("3 -1 4 0 -5 9"), [3, -1, 4, 0, -5, 9])
        self.assertEqual(read_row("0"), [0])
        self.assertEqual(read_row("-7"), [-7])
        self.assertEqual(read_row("10 100 -10"), [10, 100, -10])
        self.assertEqual(read_row("0 0 0"), [0, 0, 0])

    def test_each_figure(self):
        self.assertEqual(read_row("0 1 2 3 4 5 6 7 8 9"), list(range(10)))
        self.assertEqual(read_row("1023456789 -9876543210"), [1023456789, -9876543210])

    def test_thirty_figures(self):
        self.assertEqual(read_row("9" * 30), [10 ** 30 - 1])
        self.assertEqual(read_row("-" + "9" * 30), [-(10 ** 30) + 1])
        self.assertEqual(read_row("1" + "0" * 29 + " 5"), [10 ** 29, 5])

    def test_read_back_it_is_the_row(self):
        for row in small_rows((-10, -1, 0, 1, 10), 4):
            self.assertEqual(read_row(shown_row(row)), row)
        for row in mixed_rows(100, 40, 10 ** 30 - 1):
            self.assertEqual(read_row(shown_row(row)), row)
        for row in mixed_rows(100, 40, 3):
            self.assertEqual(read_row(shown_row(row)), row)

    def test_long_rows(self):
        for spread in [1, 10 ** 30 - 1]:
            row = mixed_row(1000, 2, spread)
            self.assertEqual(read_row(shown_row(row)), row)

    def test_written_again_it_is_the_text(self):
        for text in ["0", "-1", "5 -5 0 12", "1" * 30 + " -" + "2" * 30]:
            self.assertEqual(shown_row(read_row(text)), text)

    def test_a_row_with_more_than_thirty_figures_is_refused_when_read(self):
        for number in [10 ** 30, -(10 ** 30), NUMBER_OF_32_FIGURES, -NUMBER_OF_32_FIGURES]:
            for row in [[number], [1, number], [number, 1], [1, number, 2]]:
                self.check_refused(shown_row(row))

    def test_refused(self):
        for text in NO_TEXTS:
            self.check_refused(text)

    def test_each_sign_alone_and_beside_a_number(self):
        figures = "0123456789"
        for sign in SIGNS:
            if sign in figures:
                self.assertEqual(read_row(sign), [figures.index(sign)])
                continue
            self.check_refused(sign)
            self.check_refused("1" + sign)
            self.check_refused("1 " + sign)
            self.check_refused(sign + " 1")
            if sign != " ":
                self.check_refused("1" + sign + "2")
            if sign != "-":
                self.check_refused(sign + "1")

    def test_all_short_texts(self):
        due = {}
        for row in small_rows((-1, 0, 1, 10, 11, -10, -11, 100, 101, 110, 111), 2):
            due[" ".join(f"{number}" for number in row)] = row
        for many in range(5):
            texts = [""]
            for _ in range(many):
                texts = [text + sign for text in texts for sign in "01- \n+"]
            for text in texts:
                if text in due:
                    self.assertEqual(read_row(text), due[text])
                elif len(text) < 4:
                    self.check_refused(text)

    def test_kinds_and_a_new_list_each_time(self):
        told = read_row("1 -2")
        self.assertIs(type(told), list)
        self.assertEqual([type(number) for number in told], [int, int])
        told.append(3)
        self.assertEqual(read_row("1 -2"), [1, -2])
        self.assertIsNot(read_row("1 -2"), read_row("1 -2"))


class TestNothingIsChanged(unittest.TestCase):
    def test_the_row_stays(self):
        row = [3, -1, FAR, 0, NUMBER_OF_32_FIGURES]
        text = shown_row(row)
        self.assertEqual(row, [3, -1, FAR, 0, NUMBER_OF_32_FIGURES])
        self.assertEqual(shown_row(row), text)
        row[0] = 4
        self.assertEqual(shown_row(row), "4" + text[1:])
