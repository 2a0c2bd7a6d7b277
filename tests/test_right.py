"""right: whether signs are a line, and its refusal."""

import random
import unittest

from handboard.desk import print_of, right, sign
from tests.expected import (
    KeepsNothing,
    NO_SIGN_BYTES,
    SIGNS,
    bytes_of,
    line_sum,
    random_rows,
    random_signs,
    with_a_byte_that_is_no_sign,
    with_check_sign,
    with_each_other_sign,
    with_neighbours_exchanged,
)

NOT_FITTING = [-8]
# Their sums were worked out by hand, in the order in which they stand: 37, 74, 37, 0; 74, 111, 111; 333, 2109;
# 1295, 22015; 666, 16206, 1258, 0: each a multiple of 37.
LINES = (
    "ar", "b9", "0e", "  ",
    "abw", "zzk", "99a",
    "a" * 17 + "j", "abcdefghijklmnopqr",
    "a" * 34 + "t", "9" * 34 + "q",
    "a" * 36, "abcdefghijklmnopqrstuvwxyz0123456789", " " * 34 + "b6", " " * 36,
)


def right_of(text):
    return right(bytes_of(text))


class ALine(unittest.TestCase):
    def test_worked_out_by_hand(self):
        for line in LINES:
            self.assertEqual(right_of(line), [1], line)

    def test_of_2_to_36_signs(self):
        source = random.Random(40)
        for count in list(range(1, 36)) * 10:
            line = with_check_sign(random_signs(count, source))
            self.assertEqual(right_of(line), [1], line)

    def test_with_the_sign_that_is_told(self):
        source = random.Random(41)
        for count in list(range(1, 36)) * 10:
            signs = bytes_of(random_signs(count, source))
            self.assertEqual(right(signs + sign(signs)), [1], signs)

    def test_printed_lines(self):
        for line in bytes(print_of(random_rows(64, random.Random(42)))[1:]).splitlines():
            self.assertEqual(right(list(line)), [1])


class NoLine(unittest.TestCase):
    def assert_spoilt_are_none(self, line):
        self.assertEqual(right_of(line), [1], line)
        for spoilt in with_each_other_sign(line):
            self.assertEqual(right_of(spoilt), [0], spoilt)
        for spoilt in with_neighbours_exchanged(line):
            self.assertEqual(right_of(spoilt), [0], spoilt)

    def test_spoilt_lines(self):
        for line in LINES:
            self.assert_spoilt_are_none(line)

    def test_spoilt_lines_of_2_to_36_signs(self):
        source = random.Random(43)
        for count in list(range(1, 36)) + [1, 2, 17, 34, 35] * 3:
            self.assert_spoilt_are_none(with_check_sign(random_signs(count, source)))

    def test_spoilt_printed_lines(self):
        for line in bytes(print_of(random_rows(21, random.Random(44)))[1:]).decode().splitlines():
            self.assert_spoilt_are_none(line)

    def test_each_two_signs(self):
        for first in SIGNS:
            for second in SIGNS:
                told = 1 if line_sum(first + second) % 37 == 0 else 0
                self.assertEqual(right_of(first + second), [told])

    def test_any_signs(self):
        source = random.Random(45)
        for count in list(range(2, 37)) * 50:
            text = random_signs(count, source)
            self.assertEqual(right_of(text), [1 if line_sum(text) % 37 == 0 else 0], text)


class Refused(unittest.TestCase):
    def test_how_many_bytes(self):
        for count in (0, 1, 37, 38, 74, 99, 100):
            # Blanks alone have the right sum.
            for text in ("a", " ", "9"):
                self.assertEqual(right_of(text * count), NOT_FITTING)
        for count in (2, 36):
            self.assertEqual(right_of(" " * count), [1])

    def test_a_byte_that_is_no_sign(self):
        for signs in with_a_byte_that_is_no_sign((2, 3, 18, 35, 36)):
            self.assertEqual(right(signs), NOT_FITTING, signs)

    def test_a_line_with_a_byte_that_is_no_sign(self):
        for byte in NO_SIGN_BYTES:
            for line in LINES:
                signs = bytes_of(line)
                for index in (0, len(signs) // 2, len(signs) - 1):
                    self.assertEqual(right(signs[:index] + [byte] + signs[index + 1:]), NOT_FITTING)

    def test_both(self):
        for byte in NO_SIGN_BYTES:
            for count in (1, 37, 100):
                self.assertEqual(right([byte] * count), NOT_FITTING)


class NothingKept(KeepsNothing, unittest.TestCase):
    CALL = [right]
    HANDED_IN = [bytes_of(text) for text in ("", "a", "ar", "ra", "1 anna 09", "1 anan 09", "AR", "a" * 36, "a" * 37)]


if __name__ == "__main__":
    unittest.main()
