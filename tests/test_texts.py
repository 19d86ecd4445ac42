import itertools
import math
import unittest
from fractions import Fraction

from tests.shores import Dice
from throwgate.errors import BadRow
from throwgate.texts import read_fraction, read_number, write_fraction

NO_NUMBERS = (
    "", " ", "  ", "-", "--", "00", "01", "-0", "-00", "-01", "000000000", "0123456789", "+1", "+0", "--1", "-+1",
    "1234567890", "-1234567890", "1000000000", "-1000000000", "12345678901234567890", "9" * 1000, "-" + "9" * 999,
    " 1", "1 ", "- 1", "1 2", "-1 ", " 0", "0 ", "1-", "1-2", "0-", "1.0", "1.", ".5", "1e3", "0x1", "0b1", "1_000",
    "1,000", "a", "A", "one", "1a", "a1", "l", "O", "~", "!", "1!", "~1", "(1)", "1:2", ":", "'1'", "\"1\"", "1;",
    "1/1", "/", "x" * 1000, " " * 1000, "-" * 1000, "0" * 1000,
)
NUMBERS = (
    ("0", 0), ("1", 1), ("-1", -1), ("9", 9), ("10", 10), ("-10", -10), ("12", 12), ("345", 345), ("-6789", -6789),
    ("12345", 12345), ("100000", 100000), ("7654321", 7654321), ("-87654321", -87654321),
    ("999999999", 999999999), ("-999999999", -999999999), ("100000000", 100000000), ("-100000000", -100000000),
)
SIGNS = [chr(code) for code in range(ord(" "), ord("~") + 1)]


class ReadNumberTest(unittest.TestCase):
    def check_refused(self, text):
        with self.subTest(text=text[:40]):
            with self.assertRaises(BadRow):
                read_number(text)

    def test_numbers(self):
        for text, number in NUMBERS:
            with self.subTest(text=text):
                self.assertEqual(read_number(text), number)
                self.assertIs(type(read_number(text)), int)

    def test_one_to_nine_figures(self):
        for many in range(1, 10):
            for figure in "123456789":
                for text in (figure * many, "-" + figure * many, figure + "0" * (many - 1)):
                    self.assertEqual(read_number(text), int(text))

    def test_no_numbers(self):
        for text in NO_NUMBERS:
            self.check_refused(text)

    def test_every_text_of_one_and_two_signs(self):
        for sign in SIGNS:
            if sign in "0123456789":
                self.assertEqual(read_number(sign), int(sign))
            else:
                self.check_refused(sign)
        for one, two in itertools.product(SIGNS, repeat=2):
            text = one + two
            if two in "0123456789" and (one in "123456789" or (one == "-" and two != "0")):
                self.assertEqual(read_number(text), int(text))
            else:
                self.check_refused(text)

    def test_a_wrong_sign_at_each_spot(self):
        for spot in range(9):
            for sign in SIGNS:
                text = "123456789"[:spot] + sign + "123456789"[spot + 1:]
                right = sign in "123456789" or (sign == "0" and spot > 0) or (sign == "-" and spot == 0)
                if right:
                    self.assertEqual(read_number(text), int(text))
                else:
                    self.check_refused(text)

    def test_numbers_are_read_as_they_are_written(self):
        dice = Dice(5)
        for step in range(2000):
            number = dice.roll(-10 ** dice.roll(1, 9) + 1, 10 ** dice.roll(1, 9) - 1)
            self.assertEqual(read_number(str(number)), number)
            self.assertEqual(read_number(write_fraction(number, 1)), number)

    def test_other_signs_than_told(self):
        for text in ("1\n", "\n1", "\t1", "\u00b2", "\u0661", "1\u0660", "\u22121", "\u00a01"):
            self.check_refused(text)


class ReadFractionTest(unittest.TestCase):
    def check(self, text, wanted):
        with self.subTest(text=text):
            told = read_fraction(text)
            self.assertEqual(told, wanted)
            self.assertEqual([type(told)] + [type(number) for number in told], [tuple, int, int])

    def check_refused(self, text):
        with self.subTest(text=text[:40]):
            with self.assertRaises(BadRow):
                read_fraction(text)

    def test_numbers_alone(self):
        for text, number in NUMBERS:
            self.check(text, (number, 1))

    def test_two_numbers_as_they_are_written(self):
        for text, top in NUMBERS:
            for other, bottom in NUMBERS:
                self.check(text + "/" + other, (top, bottom))

    def test_not_brought_to_lowest_terms(self):
        self.check("2/4", (2, 4))
        self.check("-6/3", (-6, 3))
        self.check("0/7", (0, 7))
        self.check("5/1", (5, 1))

    def test_any_second_number(self):
        self.check("3/0", (3, 0))
        self.check("0/0", (0, 0))
        self.check("3/-2", (3, -2))
        self.check("-3/-6", (-3, -6))

    def test_no_fractions(self):
        for text in NO_NUMBERS:
            if text != "1/1":
                self.check_refused(text)
            self.check_refused(text + "/5")
            self.check_refused("5/" + text)
            self.check_refused(text + "/" + text + "/" + text)
        for text in ("/", "//", "1/", "/1", "1//2", "1/2/3", "1/2/", "/1/2", "1 /2", "1/ 2", "1 / 2", " 1/2", "1/2 ",
                     "1\\2", "1:2", "1|2", "-/2", "1/-", "1/+2", "-0/2", "1/-0", "01/2", "1/02", "1234567890/1",
                     "1/1234567890", "1/2" * 300, "/" * 1000):
            self.check_refused(text)


class WriteFractionTest(unittest.TestCase):
    def check(self, top, bottom, wanted):
        with self.subTest(top=top, bottom=bottom):
            told = write_fraction(top, bottom)
            self.assertIs(type(told), str)
            self.assertEqual(told, wanted)

    def test_in_lowest_terms(self):
        self.check(1, 2, "1/2")
        self.check(-7, 3, "-7/3")
        self.check(999999999, 999999998, "999999999/999999998")
        self.check(-999999998, 999999999, "-999999998/999999999")

    def test_not_in_lowest_terms(self):
        self.check(2, 4, "1/2")
        self.check(-14, 6, "-7/3")
        self.check(999999999, 3, "333333333")
        self.check(3, 999999999, "1/333333333")
        self.check(-999999999, 999999999, "-1")
        self.check(123456789, 123456789, "1")

    def test_bottom_of_one(self):
        self.check(5, 1, "5")
        self.check(-5, 1, "-5")
        self.check(999999999, 1, "999999999")
        self.check(-999999999, 1, "-999999999")
        self.check(10, 5, "2")
        self.check(-10, 5, "-2")

    def test_top_of_nought(self):
        self.check(0, 1, "0")
        self.check(0, 7, "0")
        self.check(0, 999999999, "0")

    def test_held_against_true_fractions(self):
        for top, bottom in itertools.product(range(-30, 31), range(1, 31)):
            self.check(top, bottom, str(Fraction(top, bottom)))

    def test_is_read_again(self):
        dice = Dice(6)
        for step in range(2000):
            top = dice.roll(-999999999, 999999999)
            bottom = dice.roll(1, 10 ** dice.roll(1, 9) - 1)
            divisor = math.gcd(top, bottom)
            self.assertEqual(read_fraction(write_fraction(top, bottom)), (top // divisor, bottom // divisor))


if __name__ == "__main__":
    unittest.main()
