"""print_of: what is printed of right rows, and its refusals."""

import random
import unittest

from handboard.desk import print_of
from tests.expected import (
    KeepsNothing,
    PAGE_EDGES,
    SIGNS,
    answer,
    board,
    end_signs,
    line_sum,
    plain_rows,
    random_rows,
    row,
)

TOO_MANY = [-2]
NOT_RIGHT = [-8]


def lines_of(rows):
    """The printed lines, after a look at the first number and the last line feed."""
    told = print_of(rows)
    text = "".join(chr(byte) for byte in told[1:])
    if told[0] != len(text) or not text.endswith("\n"):
        raise AssertionError(f"{told[0]} is told of {text!r}")
    return text[:-1].split("\n")


class WorkedOutByHand(unittest.TestCase):
    """Each text here was worked out by hand from the document, not taken from the program."""

    def test_no_rows(self):
        # p16 a2 g21 e20 1:168 o120 f54 1:308 make 709; 709 + 12 * 18 (r) = 25 * 37.
        # e5 n28 d12 make 45; 45 + 7 * 20 (t) = 5 * 37.
        self.assertEqual(print_of([]), answer("page 1 of 1r\nend   t\n"))
        self.assertEqual(print_of([])[0], 21)

    def test_some_rows(self):
        rows = [
            row(1, "anna", 0),
            row(1, "bob", 0),
            row(3, "c3po", 1, 2),
            row(3, "dee", 7, 3),
            row(5, "eve", 12),
        ]
        # The check signs are worth 36, 5, 8, 12, 21: in all 82, that is 8 (h);
        # each times its place 36 + 10 + 24 + 48 + 105 = 223, that is 1 (a).
        text = (
            "page 1 of 1r\n"
            "1 anna 09\n"
            "1 bob 0e\n"
            "3 c3po 1 of 2h\n"
            "3 dee 7 of 3l\n"
            "5 eve 12u\n"
            "end hax\n"
        )
        self.assertEqual(print_of(rows), answer(text))
        self.assertEqual(print_of(rows)[0], 79)

    def test_two_pages(self):
        # The x-th letter's row sums up to 163 + 3x, so its check sign is worth 16 + 18x modulo 37.
        # Those of the first page: in all 400, that is 30 (3); each times its place 3775, that is 1 (a).
        # On the second page the one row stands at place 1 again: 24 (x) both times.
        letters = "abcdefghijklmnopqrstu"
        rows = [row(1, letter, 0) for letter in letters]
        first = [f"1 {letter} 0{check}\n" for letter, check in zip(letters, "7o6n5m4l3k2j1i0hzgyf")]
        text = "page 1 of 2n\n" + "".join(first) + "end 3ac\n" + "page 2 of 25\n1 u 0x\nend xxn\n"
        self.assertEqual(print_of(rows), answer(text))

    def test_page_lines(self):
        told = {
            1: ["page 1 of 1r"],
            21: ["page 1 of 2n", "page 2 of 25"],
            41: ["page 1 of 3j", "page 2 of 31", "page 3 of 3i"],
            61: ["page 1 of 4f", "page 2 of 4x", "page 3 of 4e", "page 4 of 4w"],
        }
        for count, pages in told.items():
            with self.subTest(count=count):
                lines = lines_of(plain_rows(count))
                self.assertEqual([line for line in lines if line.startswith("page ")], pages)


class Pages(unittest.TestCase):
    def test_whole_answer_at_each_edge(self):
        for count in PAGE_EDGES:
            with self.subTest(count=count):
                rows = plain_rows(count)
                self.assertEqual(print_of(rows), answer(board(rows)))

    def test_where_pages_begin_and_end(self):
        for count, pages in PAGE_EDGES.items():
            with self.subTest(count=count):
                lines = lines_of(plain_rows(count))
                self.assertEqual(len(lines), count + 2 * pages)
                for number in range(1, pages + 1):
                    start = (number - 1) * 22
                    end = len(lines) - 1 if number == pages else start + 21
                    self.assertEqual(lines[start][:-1], f"page {number} of {pages}")
                    self.assertEqual(lines[end][:4], "end ")

    def test_two_signs_of_each_end(self):
        for count, pages in PAGE_EDGES.items():
            lines = lines_of(plain_rows(count))
            for start in range(0, 22 * pages, 22):
                with self.subTest(count=count, start=start):
                    page = lines[start:start + 22]
                    self.assertEqual(len(page[-1]), 7)
                    self.assertEqual(page[-1][4:6], end_signs(page[1:-1]))

    def test_every_line_is_a_line(self):
        for count in PAGE_EDGES:
            for line in lines_of(plain_rows(count)):
                with self.subTest(count=count, line=line):
                    self.assertTrue(2 <= len(line) <= 36)
                    self.assertEqual(line_sum(line) % 37, 0)

    def test_many_kinds_of_rows(self):
        source = random.Random(20)
        for count in list(range(65)) * 3:
            rows = random_rows(count, source)
            with self.subTest(rows=rows):
                self.assertEqual(print_of(rows), answer(board(rows)))
                for line in lines_of(rows):
                    self.assertTrue(2 <= len(line) <= 36)
                    self.assertEqual(line_sum(line) % 37, 0)


class RightRows(unittest.TestCase):
    def assert_words(self, rows, told):
        """The rows are printed with these words; check signs are left to other tests."""
        self.assertEqual([line[:-1] for line in lines_of(rows)[1:-1]], told)
        self.assertEqual(print_of(rows), answer(board(rows)))

    def test_names_of_1_and_12_signs(self):
        rows = [row(1, "z", 1), row(2, "abcdefghijkl", 2), row(3, "0", 3), row(4, "az09az09az09", 4)]
        self.assert_words(rows, ["1 z 1", "2 abcdefghijkl 2", "3 0 3", "4 az09az09az09 4"])

    def test_each_sign_in_a_name(self):
        rows = [row(1, sign, 5) for sign in SIGNS[1:]]
        self.assert_words(rows[:20], [f"1 {sign} 5" for sign in SIGNS[1:21]])
        self.assert_words(rows[20:], [f"1 {sign} 5" for sign in SIGNS[21:]])

    def test_names_that_begin_alike_differ(self):
        self.assert_words([row(1, "a", 1), row(2, "aa", 1), row(2, "a0", 1)], ["1 a 1", "2 aa 1", "2 a0 1"])

    def test_greatest_numbers(self):
        rows = [row(1, "a", 1, 9999), row(2, "b", 999998, 9999), row(3, "c", 999999, 9998), row(4, "d", 999999)]
        self.assert_words(rows, ["1 a 1 of 9999", "2 b 999998 of 9999", "3 c 999999 of 9998", "4 d 999999"])

    def test_longest_row(self):
        rows = plain_rows(63) + [row(64, "zzzzzzzzzzzz", 999998, 9999)]
        self.assertEqual(len(lines_of(rows)[-2]), 31)
        self.assertEqual(lines_of(rows)[-2][:-1], "64 zzzzzzzzzzzz 999998 of 9999")

    def test_digits(self):
        rows = [row(1, "00", 0), row(1, "007", 7, 100), row(1, "a", 10), row(1, "b", 100), row(5, "c", 1000)]
        self.assert_words(rows, ["1 00 0", "1 007 7 of 100", "1 a 10", "1 b 100", "5 c 1000"])

    def test_places(self):
        rows = [row(place, f"n{number}", 3) for number, place in enumerate((1, 1, 1, 4, 4, 6, 6, 6, 9, 10))]
        self.assertEqual(print_of(rows), answer(board(rows)))

    def test_places_do_not_hang_on_totals(self):
        self.assert_words([row(1, "a", 1), row(2, "b", 1)], ["1 a 1", "2 b 1"])
        self.assert_words([row(1, "a", 1), row(1, "b", 2)], ["1 a 1", "1 b 2"])

    def test_place_over_pages(self):
        rows = [row(1, f"n{number}", 3) for number in range(64)]
        self.assertEqual(print_of(rows), answer(board(rows)))

    def test_totals_by_fractions_alone(self):
        rows = [
            row(1, "a", 5, 11),
            row(2, "b", 1, 2),
            row(3, "c", 1, 2),
            row(4, "d", 9997, 9998),
            row(5, "e", 9998, 9999),
            row(6, "f", 1),
        ]
        told = ["1 a 5 of 11", "2 b 1 of 2", "3 c 1 of 2", "4 d 9997 of 9998", "5 e 9998 of 9999", "6 f 1"]
        self.assert_words(rows, told)

    def test_nothing_more_than_once(self):
        self.assert_words([row(1, "a", 0), row(2, "b", 0), row(3, "c", 1, 9999)], ["1 a 0", "2 b 0", "3 c 1 of 9999"])


class TooManyRows(unittest.TestCase):
    def test_right_but_for_their_number(self):
        for count in (65, 66, 80, 81, 100):
            with self.subTest(count=count):
                self.assertEqual(print_of(plain_rows(count)), TOO_MANY)

    def test_ahead_of_not_right(self):
        for count in (65, 100):
            with self.subTest(count=count):
                self.assertEqual(print_of([row(1, "same", 1)] * count), TOO_MANY)
                self.assertEqual(print_of([[0, 0, 0]] * count), TOO_MANY)
                self.assertEqual(print_of([[4294967295] * 3 + [255] * 40] * count), TOO_MANY)

    def test_64_rows_are_looked_at(self):
        self.assertEqual(print_of(plain_rows(64)), answer(board(plain_rows(64))))
        self.assertEqual(print_of([row(1, "same", 1)] * 64), NOT_RIGHT)


class NotRightRows(unittest.TestCase):
    def assert_not_right(self, wrong):
        self.assertEqual(print_of(wrong), NOT_RIGHT, wrong)

    def assert_wrong_anywhere(self, make):
        """make(number) is wrong by itself: alone, first, in the middle, last of 64."""
        self.assert_not_right([make(1)])
        for index in (0, 1, 19, 20, 63):
            rows = plain_rows(64)
            rows[index] = make(index + 1)
            self.assert_not_right(rows)

    def with_name(self, name):
        return lambda number: [number, number, 1] + name

    def with_total(self, numerator, denominator):
        return lambda number: row(number, "a", numerator, denominator)

    def test_a_name_twice(self):
        self.assert_not_right([row(1, "a", 1), row(2, "a", 2)])
        self.assert_not_right([row(1, "a", 1), row(1, "a", 1)])
        self.assert_not_right([row(1, "a", 1), row(2, "b", 2), row(3, "a", 3)])
        for first, second in ((0, 63), (19, 20), (0, 1), (62, 63)):
            rows = plain_rows(64)
            rows[second] = row(second + 1, f"n{first + 1}", second + 1)
            self.assert_not_right(rows)

    def test_a_name_without_bytes(self):
        self.assert_wrong_anywhere(self.with_name([]))

    def test_a_name_of_too_many_bytes(self):
        for length in (13, 14, 40):
            self.assert_wrong_anywhere(self.with_name([97] * length))

    def test_a_name_with_another_byte(self):
        signs = [ord(sign) for sign in SIGNS[1:]]
        for byte in range(256):
            rows = [[1, 1, 1, 97, byte]]
            if byte in signs:
                self.assertEqual(print_of(rows), answer(board(rows)))
            else:
                self.assert_not_right(rows)

    def test_another_byte_first_within_and_last(self):
        for byte in (0, 10, 32, 47, 58, 65, 90, 95, 96, 123, 128, 225, 255):
            self.assert_wrong_anywhere(self.with_name([byte]))
            self.assert_wrong_anywhere(self.with_name([byte, 97, 98]))
            self.assert_wrong_anywhere(self.with_name([97, byte, 98]))
            self.assert_wrong_anywhere(self.with_name([97, 98, byte]))

    def test_the_first_place_is_not_1(self):
        for place in (0, 2, 20, 64, 65, 4294967295):
            self.assert_not_right([row(place, "a", 1)])
            self.assert_not_right([row(place, "a", 1), row(2, "b", 2)])
            self.assert_not_right([row(place, "a", 1), row(place, "b", 2)])

    def test_another_place(self):
        for place in (0, 2, 4, 6, 7, 64, 4294967295):
            rows = [row(1, "a", 1), row(1, "b", 1), row(3, "c", 1), row(3, "d", 1), row(place, "e", 1)]
            self.assert_not_right(rows)
        self.assert_not_right([row(1, "a", 1), row(1, "b", 1), row(2, "c", 2)])
        self.assert_not_right([row(1, "a", 1), row(2, "b", 1), row(1, "c", 2)])

    def test_another_place_on_a_later_page(self):
        # A row's own number is counted over all rows, not anew on each page.
        for place in (1, 2, 19, 22):
            rows = plain_rows(21)
            rows[20] = row(place, "n21", 21)
            self.assert_not_right(rows)

    def test_a_total_less_than_the_one_before(self):
        pairs = (
            ((1, 1), (0, 1)),
            ((2, 1), (1, 1)),
            ((1, 2), (1, 3)),
            ((1, 2), (2, 5)),
            ((1, 1), (9998, 9999)),
            ((9998, 9999), (9997, 9998)),
            ((999999, 1), (999999, 2)),
            ((1, 9999), (0, 1)),
        )
        for greater, less in pairs:
            with self.subTest(greater=greater, less=less):
                self.assert_not_right([row(1, "a", *greater), row(2, "b", *less)])
                self.assert_not_right([row(1, "a", *greater), row(1, "b", *less)])
                self.assert_not_right([row(1, "a", *less), row(2, "b", *greater), row(3, "c", *less)])
                right = [row(1, "a", *less), row(2, "b", *greater)]
                self.assertEqual(print_of(right), answer(board(right)))

    def test_a_less_total_on_the_next_page(self):
        rows = plain_rows(21)
        rows[20] = row(21, "n21", 19)
        self.assert_not_right(rows)

    def test_a_fraction_not_in_lowest_terms(self):
        wrong = ((2, 2), (2, 4), (6, 9), (9999, 9999), (999999, 9999), (999998, 2), (999999, 37), (4, 2), (35, 7))
        for numerator, denominator in wrong:
            self.assert_wrong_anywhere(self.with_total(numerator, denominator))

    def test_nothing_written_otherwise(self):
        for denominator in (0, 2, 3, 9999, 10000, 4294967295):
            self.assert_not_right([row(1, "a", 0, denominator)])
            self.assert_not_right([row(1, "a", 0), row(2, "b", 0, denominator)])

    def test_a_numerator_too_great(self):
        for numerator in (1000000, 1000001, 4294967295):
            self.assert_not_right([row(1, "a", numerator)])
            self.assert_not_right([row(1, "a", 1), row(2, "b", numerator)])
        # These are in lowest terms.
        self.assert_not_right([row(1, "a", 1000000, 9999)])
        self.assert_not_right([row(1, "a", 1000001, 2)])

    def test_a_denominator_out_of_its_range(self):
        for denominator in (0, 10000, 10001, 4294967295):
            for numerator in (0, 1, 7, 999999, 4294967295):
                self.assert_wrong_anywhere(self.with_total(numerator, denominator))

    def test_greatest_numbers_everywhere(self):
        top = 4294967295
        self.assert_not_right([[top, top, top]])
        self.assert_not_right([[top, top, top] + [255] * 40])
        self.assert_not_right([[0, 0, 0]])
        self.assert_not_right([[top, 1, 1, 97]])
        self.assert_not_right([[1, top, 1, 97]])
        self.assert_not_right([[1, 1, top, 97]])
        self.assert_not_right([[1, top, top, 97]])
        self.assert_not_right([[1, top - 1, top, 97]])


class NothingKept(KeepsNothing, unittest.TestCase):
    CALL = [print_of]
    HANDED_IN = (
        [],
        plain_rows(1),
        plain_rows(21),
        plain_rows(64),
        plain_rows(65),
        [[0, 0, 0]],
        [row(1, "a", 2), row(2, "b", 1)],
        [row(1, "a", 1), row(1, "b", 1), row(3, "a", 1, 2)],
        [row(1, "anna", 1, 2), row(2, "bob", 2, 3)],
    )


if __name__ == "__main__":
    unittest.main()
