"""mends: the lines that a spoilt one may have been, and its refusal."""

import random
import unittest

from handboard.desk import mends, print_of, right
from tests.expected import (
    KeepsNothing,
    NO_SIGN_BYTES,
    SIGNS,
    bytes_of,
    mends_answer,
    plain_rows,
    random_rows,
    random_signs,
    with_a_byte_that_is_no_sign,
    with_check_sign,
    with_each_other_sign,
    with_neighbours_exchanged,
)

NOT_FITTING = [-8]
LENGTHS = (2, 3, 18, 35, 36)


def mends_of(text):
    return mends(bytes_of(text))


def told_lines(length, told):
    """The lines that were told of so many signs."""
    text = bytes(told[1:]).decode("ascii")
    if len(text) != told[0] * length:
        raise AssertionError(f"{told[0]} lines are told with {len(text)} signs")
    return [text[start:start + length] for start in range(0, len(text), length)]


def printed_lines(rows):
    return bytes(print_of(rows)[1:]).decode("ascii").splitlines()


class WorkedOutByHand(unittest.TestCase):
    """Each answer here was worked out by hand from the document, not taken from the program."""

    def assert_lines(self, signs, lines):
        self.assertEqual(mends_of(signs), [len(lines)] + bytes_of("".join(lines)))

    def test_2_signs(self):
        # 35 (8) + 2 * 1 = 37; 1 + 2 * 18 (r) = 37. The 8 is worth more than the a, but a lesser byte.
        self.assert_lines("aa", ["8a", "ar"])
        # 33 (6) + 2 * 2 = 37; 1 + 2 * 18 (r) = 37; ba has 4.
        self.assert_lines("ab", ["6b", "ar"])
        # 35 (8) + 2 * 1 = 37; two blanks: 0; "a " has 1.
        self.assert_lines(" a", ["  ", "8a"])

    def test_two_exchanged(self):
        # 35 (8) + 2 * 1 = 37; 18 + 2 * 28 (1) = 2 * 37; ar: 1 + 2 * 18 = 37.
        self.assert_lines("ra", ["8a", "ar", "r1"])

    def test_3_signs(self):
        # baw: c + 2 * 1 + 3 * 23 = 2 * 37; 2 + 2 * 20 (t) + 69 = 3 * 37; 2 + 2 + 3 * 11 (k) = 37; abw: 2 * 37.
        # bwa has 51.
        self.assert_lines("baw", ["abw", "bak", "btw", "caw"])
        # 34 (7) + 3 = 37; 2 * 17 (q) + 3 = 37; three blanks: 0. The blank stands ahead of the digits.
        self.assert_lines("  a", ["   ", " qa", "7 a"])

    def test_more_exchanges_than_one(self):
        # 2 + 2 + 6 + 4 + 10 + 6 + 7 * 22 = 184, 1 less than 5 * 37: each b a that is exchanged adds 1.
        told = told_lines(7, mends_of("bababav"))
        self.assertEqual(len(told), 7 + 3)
        for line in ("abbabav", "baabbav", "babaabv"):
            self.assertIn(line, told)

    def test_a_line_of_a_board(self):
        told = told_lines(12, mends_of("page 1 fo 1r"))
        self.assertIn("page 1 of 1r", told)
        self.assertEqual(told, sorted(told))
        self.assertGreaterEqual(len(told), 13)


class TheWholeAnswer(unittest.TestCase):
    def assert_answer(self, signs):
        self.assertEqual(mends_of(signs), mends_answer(signs), signs)

    def test_each_two_signs(self):
        for first in SIGNS:
            for second in SIGNS:
                self.assert_answer(first + second)

    def test_spoilt_lines(self):
        source = random.Random(50)
        for length in LENGTHS:
            for turn in range(4):
                line = with_check_sign(random_signs(length - 1, source))
                spoilt = [source.choice(list(with_each_other_sign(line))) for each in range(4)]
                spoilt.extend(list(with_neighbours_exchanged(line))[:4])
                for signs in spoilt:
                    self.assert_answer(signs)

    def test_any_signs(self):
        source = random.Random(51)
        for length in list(range(2, 37)) * 4:
            self.assert_answer(random_signs(length, source))

    def test_of_few_different_signs(self):
        # Here many neighbours are alike, and many exchanges have the same effect on the sum.
        source = random.Random(52)
        for length in list(range(2, 37)) * 3:
            few = source.sample(SIGNS, 2)
            self.assert_answer("".join(source.choice(few) for each in range(length)))

    def test_order_and_once(self):
        source = random.Random(54)
        for length in list(range(2, 37)) * 10:
            signs = random_signs(length, source)
            told = told_lines(length, mends_of(signs))
            ordered = sorted(set(told), key=lambda line: line.encode("ascii"))
            self.assertEqual(told, ordered, signs)
            self.assertNotIn(signs, told)

    def test_a_line_more_for_each_place(self):
        # At each place of a spoilt line just one other sign makes a line; what is more comes by exchange.
        source = random.Random(55)
        for length in list(range(2, 37)) * 10:
            signs = random_signs(length, source)
            if right(bytes_of(signs)) == [0]:
                exchanged = [line for line in with_neighbours_exchanged(signs) if right(bytes_of(line)) == [1]]
                self.assertEqual(mends_of(signs)[0], length + len(exchanged))

    def test_right_says_1_of_every_line_told(self):
        source = random.Random(56)
        for length in list(range(2, 37)) * 10:
            signs = random_signs(length, source)
            for line in told_lines(length, mends_of(signs)):
                self.assertEqual(right(bytes_of(line)), [1], (signs, line))


class OfALine(unittest.TestCase):
    def test_there_are_none(self):
        source = random.Random(57)
        for length in list(range(2, 37)) * 10:
            line = with_check_sign(random_signs(length - 1, source))
            self.assertEqual(mends_of(line), [0], line)
        for length in LENGTHS:
            self.assertEqual(mends_of(" " * length), [0])

    def test_printed_lines(self):
        for line in printed_lines(random_rows(64, random.Random(58))):
            self.assertEqual(mends_of(line), [0], line)


class TheLineItWas(unittest.TestCase):
    def assert_told(self, line, spoilt):
        self.assertIn(line, told_lines(len(line), mends_of(spoilt)), spoilt)

    def test_one_sign_changed(self):
        rows = plain_rows(20) + [[21, 999998, 9999] + bytes_of("zzzzzzzzzzzz")]
        for line in printed_lines(rows):
            for spoilt in with_each_other_sign(line):
                self.assert_told(line, spoilt)

    def test_one_sign_changed_on_a_board_of_64_rows(self):
        source = random.Random(59)
        for line in printed_lines(random_rows(64, source)):
            for spoilt in source.sample(list(with_each_other_sign(line)), 40):
                self.assert_told(line, spoilt)

    def test_two_neighbours_exchanged(self):
        source = random.Random(60)
        for count in (0, 1, 21, 64):
            for line in printed_lines(random_rows(count, source)):
                for spoilt in with_neighbours_exchanged(line):
                    self.assert_told(line, spoilt)

    def test_lines_of_2_to_36_signs(self):
        source = random.Random(61)
        for length in range(2, 37):
            line = with_check_sign(random_signs(length - 1, source))
            for spoilt in [*with_each_other_sign(line), *with_neighbours_exchanged(line)]:
                self.assert_told(line, spoilt)


class Refused(unittest.TestCase):
    def test_how_many_bytes(self):
        for count in (0, 1, 37, 38, 74, 99, 100):
            for text in ("a", " ", "9"):
                self.assertEqual(mends_of(text * count), NOT_FITTING)
        for count in (2, 36):
            self.assertEqual(mends_of("b" * count), mends_answer("b" * count))

    def test_a_byte_that_is_no_sign(self):
        for signs in with_a_byte_that_is_no_sign(LENGTHS):
            self.assertEqual(mends(signs), NOT_FITTING, signs)

    def test_both(self):
        for byte in NO_SIGN_BYTES:
            for count in (1, 37, 100):
                self.assertEqual(mends([byte] * count), NOT_FITTING)


class NothingKept(KeepsNothing, unittest.TestCase):
    CALL = [mends]
    HANDED_IN = [bytes_of(text) for text in ("", "a", "ar", "ra", "1 anna 09", "1 anan 09", "AR", "b" * 36, "b" * 37)]


if __name__ == "__main__":
    unittest.main()
