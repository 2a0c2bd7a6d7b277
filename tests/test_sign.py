"""sign: the check sign that makes a line, and its refusal."""

import random
import unittest

from handboard.desk import print_of, sign
from tests.expected import (
    KeepsNothing,
    NO_SIGN_BYTES,
    SIGNS,
    bytes_of,
    line_sum,
    random_rows,
    random_signs,
    with_a_byte_that_is_no_sign,
    with_check_sign,
)

NOT_FITTING = [-8]


def sign_of(text):
    return sign(bytes_of(text))


class SignCase(unittest.TestCase):
    def assert_sign(self, text, check):
        self.assertEqual(sign_of(text), [ord(check)], text)


class WorkedOutByHand(SignCase):
    """Each check sign here was worked out by hand from the document, not taken from the program."""

    def test_1_sign(self):
        # worth + 2 * check: a, 1 + 2 * 18 = 37; b, 2 + 2 * 36 = 2 * 37; z, 26 + 2 * 24 = 2 * 37;
        # 0, 27 + 2 * 5 = 37; 9, 36 + 2 * 19 = 2 * 37.
        for text, check in (("a", "r"), ("b", "9"), ("z", "x"), ("0", "e"), ("9", "s"), (" ", " ")):
            self.assert_sign(text, check)

    def test_each_single_sign(self):
        # An odd worth and twice half of what lacks to 37 make 37; an even one goes up to 74.
        for worth, text in enumerate(SIGNS):
            check = 0 if worth == 0 else (37 - worth) // 2 if worth % 2 else (74 - worth) // 2
            self.assert_sign(text, SIGNS[check])

    def test_2_signs(self):
        # ab: 1 + 4 + 3 * 23 = 2 * 37; ba: 2 + 2 + 3 * 11 = 37; zz: 78 + 3 * 11 = 3 * 37;
        # 99: 108 + 3 * 1 = 3 * 37; 10: 28 + 54 + 3 * 22 = 4 * 37; "0 ": 27 + 3 * 28 = 3 * 37.
        for text, check in (("ab", "w"), ("ba", "k"), ("zz", "k"), ("99", "a"), ("10", "v"), ("0 ", "1"), ("  ", " ")):
            self.assert_sign(text, check)

    def test_17_signs(self):
        # 153 + 18 * 10 = 9 * 37; the squares up to 17: 1785 + 18 * 18 = 57 * 37; 17 + 18 * 34 = 17 * 37.
        self.assert_sign("a" * 17, "j")
        self.assert_sign("abcdefghijklmnopq", "r")
        self.assert_sign(" " * 16 + "a", "7")

    def test_34_signs(self):
        # 595 + 35 * 20 = 35 * 37; 36 * 595 + 35 * 17 = 595 * 37; 1 + 35 * 19 = 18 * 37.
        self.assert_sign("a" * 34, "t")
        self.assert_sign("9" * 34, "q")
        self.assert_sign("a" + " " * 33, "s")

    def test_35_signs(self):
        # 630 + 36 * 1 = 18 * 37; the squares up to 36: 438 * 37; 70 + 36 * 33 = 34 * 37.
        self.assert_sign("a" * 35, "a")
        self.assert_sign("abcdefghijklmnopqrstuvwxyz012345678", "9")
        self.assert_sign(" " * 34 + "b", "6")
        self.assert_sign(" " * 35, " ")

    def test_lines_of_a_board(self):
        for line in ("page 1 of 1r", "end   t", "1 anna 09", "1 bob 0e", "3 c3po 1 of 2h", "5 eve 12u", "end hax"):
            self.assert_sign(line[:-1], line[-1])


class MakesALine(SignCase):
    def test_this_sign_and_no_other(self):
        source = random.Random(30)
        for count in list(range(1, 36)) * 20:
            text = random_signs(count, source)
            fitting = [check for check in SIGNS if line_sum(text + check) % 37 == 0]
            self.assertEqual([ord(check) for check in fitting], sign_of(text), text)

    def test_each_two_signs(self):
        for first in SIGNS:
            for second in SIGNS:
                self.assert_sign(first + second, with_check_sign(first + second)[-1])

    def test_each_check_sign_at_each_length(self):
        # The last of the signs handed in is tried with each worth: all check signs come of it.
        for count in range(1, 36):
            told = [sign_of("k" * (count - 1) + last)[0] for last in SIGNS]
            self.assertEqual(sorted(told), sorted(bytes_of(SIGNS)), count)

    def test_printed_lines(self):
        for line in bytes(print_of(random_rows(64, random.Random(31)))[1:]).splitlines():
            self.assertEqual(sign(list(line[:-1])), [line[-1]])


class Refused(SignCase):
    def test_how_many_bytes(self):
        for count in (0, 36, 37, 38, 74, 99, 100):
            for text in ("a", " ", "9"):
                self.assertEqual(sign_of(text * count), NOT_FITTING)
        for count in (1, 35):
            self.assertNotEqual(sign_of("a" * count), NOT_FITTING)

    def test_a_byte_that_is_no_sign(self):
        for byte in (10, 31, 33, 47, 58, 64, 65, 90, 96, 123, 0, 128, 255):
            self.assertIn(byte, NO_SIGN_BYTES)
        self.assertEqual(len(NO_SIGN_BYTES), 219)
        for signs in with_a_byte_that_is_no_sign((1, 2, 3, 18, 34, 35)):
            self.assertEqual(sign(signs), NOT_FITTING, signs)

    def test_both(self):
        for byte in NO_SIGN_BYTES:
            self.assertEqual(sign([byte] * 36), NOT_FITTING)
            self.assertEqual(sign([byte] * 100), NOT_FITTING)


class NothingKept(KeepsNothing, unittest.TestCase):
    CALL = [sign]
    HANDED_IN = [bytes_of(text) for text in ("", "a", "9", "ab", "ba", "1 anna 0", "A", "a" * 35, "a" * 36, "a" * 100)]


if __name__ == "__main__":
    unittest.main()
