"""read: the rows of a board, the fault of any other text, and the refusal of one too long."""

import random
import unittest

from handboard.desk import print_of, read
from tests.expected import (
    KeepsNothing,
    PAGE_EDGES,
    SIGNS,
    board,
    bytes_of,
    end_signs,
    lines_text,
    plain_rows,
    random_rows,
    read_answer,
    row,
    rows_answer,
    with_check_sign,
    with_each_other_sign,
    with_neighbours_exchanged,
    words,
)

TOO_MANY = [-2]
NOT_SIGNS = 1
WRONG_SUM = 2
CANNOT_STAND = 3
# Signs' neighbours among the bytes, and others that are no sign.
NO_SIGNS = (0, 9, 13, 31, 33, 47, 58, 64, 65, 90, 95, 96, 123, 127, 128, 160, 225, 255)


def read_text(text):
    return read(bytes_of(text))


def lines_of(text):
    return text[:-1].split("\n")


def text_of(lines):
    return "".join(line + "\n" for line in lines)


def page_text(page, rows):
    """A page's line and its rows' words as they are handed in, then the end that fits them."""
    row_lines = [with_check_sign(one) for one in rows]
    return lines_text(page, *rows, "end " + end_signs(row_lines))


def plain_words(first, last):
    return [f"{number} n{number} {number}" for number in range(first, last + 1)]


def full_pages(count, page_count):
    """So many first pages of a board of page_count pages, each with 20 rows."""
    return "".join(
        page_text(f"page {number} of {page_count}", plain_words(20 * number - 19, 20 * number))
        for number in range(1, count + 1)
    )


class ReadCase(unittest.TestCase):
    def assert_fault(self, text, line, why):
        self.assertEqual(read_text(text), [-6, line, why], text)


class WorkedOutByHand(ReadCase):
    """Each text here was worked out by hand from the document, not taken from the program."""

    def test_no_rows(self):
        self.assertEqual(read_text("page 1 of 1r\nend   t\n"), [0])

    def test_some_rows(self):
        text = (
            "page 1 of 1r\n"
            "1 anna 09\n"
            "1 bob 0e\n"
            "3 c3po 1 of 2h\n"
            "3 dee 7 of 3l\n"
            "5 eve 12u\n"
            "end hax\n"
        )
        told = [5]
        told += [4, 97, 110, 110, 97, 1, 0, 1]
        told += [3, 98, 111, 98, 1, 0, 1]
        told += [4, 99, 51, 112, 111, 3, 1, 2]
        told += [3, 100, 101, 101, 3, 7, 3]
        told += [3, 101, 118, 101, 5, 12, 1]
        self.assertEqual(read_text(text), told)

    def test_two_pages(self):
        letters = "abcdefghijklmnopqrstu"
        first = [f"1 {letter} 0{check}\n" for letter, check in zip(letters, "7o6n5m4l3k2j1i0hzgyf")]
        text = "page 1 of 2n\n" + "".join(first) + "end 3ac\n" + "page 2 of 25\n1 u 0x\nend xxn\n"
        told = [21]
        for byte in range(97, 118):
            told += [1, byte, 1, 0, 1]
        self.assertEqual(read_text(text), told)

    def test_faults(self):
        self.assert_fault("", 0, CANNOT_STAND)
        self.assert_fault("page 1 of 1r\n", 1, CANNOT_STAND)
        self.assert_fault("page 1 of 1r\nend   t", 1, NOT_SIGNS)
        self.assert_fault("page 1 of 1r\nend   s\n", 1, WRONG_SUM)
        self.assert_fault("page 1 of 1r\nend   t\nend   t\n", 2, CANNOT_STAND)
        # One blank for each sign of a line: worth nothing in all, so it is a line, but no board's.
        self.assert_fault("  \n", 0, CANNOT_STAND)


class Boards(ReadCase):
    def assert_read_back(self, rows):
        printed = print_of(rows)
        self.assertEqual(printed[0], len(printed) - 1)
        self.assertEqual(read(printed[1:]), rows_answer(rows))

    def test_each_number_of_rows(self):
        for count in range(65):
            with self.subTest(count=count):
                self.assert_read_back(plain_rows(count))

    def test_edges_told_apart_from_the_program(self):
        for count in PAGE_EDGES:
            with self.subTest(count=count):
                rows = plain_rows(count)
                self.assertEqual(read_text(board(rows)), rows_answer(rows))

    def test_many_kinds_of_rows(self):
        source = random.Random(21)
        for count in list(range(65)) * 3:
            rows = random_rows(count, source)
            with self.subTest(rows=rows):
                self.assert_read_back(rows)
                self.assertEqual(read_text(board(rows)), rows_answer(rows))

    def test_edges_of_a_row(self):
        self.assert_read_back([row(1, "z", 0), row(1, "abcdefghijkl", 0), row(3, "0", 1, 9999), row(4, "of", 999999)])
        self.assert_read_back([row(1, "00", 0), row(2, "page", 1, 2), row(2, "end", 1, 2), row(4, "1", 10)])
        self.assert_read_back(plain_rows(63) + [row(64, "zzzzzzzzzzzz", 999998, 9999)])
        self.assert_read_back([row(1, "a", 999998, 9999), row(1, "b", 999999, 9998)])
        self.assert_read_back([row(1, f"n{number}", 3) for number in range(64)])

    def test_each_check_sign_of_a_row(self):
        # A blank as check sign is no word's end.
        found = {}
        for number in range(200):
            rows = [row(1, "a", number)]
            found[board(rows).split("\n")[1][-1]] = True
            self.assert_read_back(rows)
        self.assertEqual(sorted(found), sorted(SIGNS))


class TooManyBytes(ReadCase):
    def test_whatever_they_hold(self):
        for count in (65537, 66000):
            for byte in (0, 10, 32, 97, 255):
                with self.subTest(count=count, byte=byte):
                    self.assertEqual(read([byte] * count), TOO_MANY)

    def test_a_board_first(self):
        text = bytes_of(board(plain_rows(3)))
        for count in (65537, 66000):
            self.assertEqual(read(text + [10] * (count - len(text))), TOO_MANY)
            self.assertEqual(read([10] * (count - len(text)) + text), TOO_MANY)

    def test_65536_bytes_are_read(self):
        self.assertEqual(read([0] * 65536), [-6, 0, NOT_SIGNS])
        self.assertEqual(read([10] * 65536), [-6, 0, NOT_SIGNS])
        self.assertEqual(read([32] * 65536), [-6, 0, NOT_SIGNS])
        text = bytes_of(board(plain_rows(3)))
        self.assertEqual(read(text + [97] * (65536 - len(text))), [-6, 5, NOT_SIGNS])
        self.assertEqual(read(text + [10] * (65536 - len(text))), [-6, 5, NOT_SIGNS])


class EndsTooEarly(ReadCase):
    def test_no_bytes(self):
        self.assertEqual(read([]), [-6, 0, CANNOT_STAND])

    def test_behind_each_line(self):
        for count in PAGE_EDGES:
            lines = lines_of(board(plain_rows(count)))
            for kept in range(len(lines)):
                with self.subTest(count=count, kept=kept):
                    self.assert_fault(text_of(lines[:kept]), kept, CANNOT_STAND)

    def test_without_the_last_page(self):
        for count, lines in ((21, 22), (40, 22), (41, 44), (61, 66), (64, 66)):
            text = board(plain_rows(count))
            self.assert_fault(text[:text.rindex("page")], lines, CANNOT_STAND)


class NotSigns(ReadCase):
    def assert_at_each_line(self, spoil):
        lines = lines_of(board(plain_rows(21)))
        for number, line in enumerate(lines):
            text = text_of(lines[:number] + [spoil(line)] + lines[number + 1:])
            self.assert_fault(text, number, NOT_SIGNS)

    def test_0_and_1_signs(self):
        self.assert_fault("\n", 0, NOT_SIGNS)
        self.assert_at_each_line(lambda line: "")
        # A single blank would have the right sum.
        for sign in SIGNS:
            self.assert_fault(sign + "\n", 0, NOT_SIGNS)
        self.assert_at_each_line(lambda line: " ")
        self.assert_at_each_line(lambda line: line[:1])

    def test_a_line_between_two_line_feeds(self):
        lines = lines_of(board(plain_rows(21)))
        for number in range(len(lines) + 1):
            self.assert_fault(text_of(lines[:number] + [""] + lines[number:]), number, NOT_SIGNS)

    def test_37_signs_and_more(self):
        for count in (37, 38, 74, 1000):
            # Blanks alone have the right sum.
            self.assert_at_each_line(lambda line: " " * count)
            self.assert_at_each_line(lambda line: "a" * count)

    def test_2_and_36_signs_are_not_refused_so(self):
        for count in (2, 3, 35, 36):
            self.assert_fault(" " * count + "\n", 0, CANNOT_STAND)
            self.assert_fault(" " * (count - 1) + "a\n", 0, WRONG_SUM)

    def test_a_byte_that_is_no_sign(self):
        for byte in NO_SIGNS:
            letter = chr(byte)
            with self.subTest(byte=byte):
                self.assert_at_each_line(lambda line: letter + line[1:])
                self.assert_at_each_line(lambda line: line[:2] + letter + line[3:])
                self.assert_at_each_line(lambda line: line[:-1] + letter)
                self.assert_at_each_line(lambda line: line + letter)

    def test_each_byte(self):
        for byte in range(256):
            text = "page 1 of 1r\nend " + chr(byte) + " t\n"
            if byte == 10:
                told = [-6, 1, WRONG_SUM]
            elif chr(byte) == " ":
                told = [0]
            else:
                told = [-6, 1, WRONG_SUM if chr(byte) in SIGNS else NOT_SIGNS]
            with self.subTest(byte=byte):
                self.assertEqual(read_text(text), told)

    def test_the_last_line_without_its_line_feed(self):
        for count, pages in PAGE_EDGES.items():
            text = board(plain_rows(count))
            self.assert_fault(text[:-1], count + 2 * pages - 1, NOT_SIGNS)

    def test_any_line_without_its_line_feed(self):
        lines = lines_of(board(plain_rows(21)))
        for number in range(len(lines)):
            for length in range(1, len(lines[number]) + 1):
                self.assert_fault(text_of(lines[:number]) + lines[number][:length], number, NOT_SIGNS)

    def test_ahead_of_2_and_3_on_the_same_line(self):
        # A wrong sum too, out of its place too, or both.
        self.assert_fault("page 1 of 1r\nend   T\n", 1, NOT_SIGNS)
        self.assert_fault("page 1 of 1r\nend   s", 1, NOT_SIGNS)
        self.assert_fault("page 1 of 1r\npage 1 of 1r", 1, NOT_SIGNS)
        self.assert_fault("page 1 of 1r\nend   t\nend   t", 2, NOT_SIGNS)
        self.assert_fault("page 1 of 1r\nend   t\nxyz", 2, NOT_SIGNS)
        self.assert_fault("Page 1 of 9r\n", 0, NOT_SIGNS)


class WrongSum(ReadCase):
    def assert_told_there(self, lines, number, spoilt):
        self.assert_fault(text_of(lines[:number] + [spoilt] + lines[number + 1:]), number, WRONG_SUM)

    def test_each_sign_changed_for_each_other(self):
        rows = [row(1, "anna", 0), row(1, "bob", 0), row(3, "c3po", 1, 2), row(4, "zzzzzzzzzzzz", 999998, 9999)]
        lines = lines_of(board(rows))
        for number, line in enumerate(lines):
            for spoilt in with_each_other_sign(line):
                self.assert_told_there(lines, number, spoilt)

    def test_each_line_of_boards_of_many_pages(self):
        source = random.Random(22)
        for count in (20, 21, 41, 64):
            lines = lines_of(board(random_rows(count, source)))
            for number, line in enumerate(lines):
                for index in range(len(line)):
                    sign = source.choice(SIGNS.replace(line[index], ""))
                    self.assert_told_there(lines, number, line[:index] + sign + line[index + 1:])

    def test_two_different_neighbours_exchanged(self):
        source = random.Random(23)
        for count in (0, 1, 20, 21, 41, 64):
            lines = lines_of(board(random_rows(count, source)))
            for number, line in enumerate(lines):
                for spoilt in with_neighbours_exchanged(line):
                    self.assert_told_there(lines, number, spoilt)

    def test_ahead_of_3_on_the_same_line(self):
        self.assert_fault("end   s\n", 0, WRONG_SUM)
        self.assert_fault("page 1 of 1r\npage 1 of 1s\n", 1, WRONG_SUM)
        self.assert_fault("page 1 of 1r\nend   t\nend   s\n", 2, WRONG_SUM)


class TheFirstLineIsTold(ReadCase):
    def test_an_earlier_line_stands_ahead(self):
        out_of_place = "page 1 of 1r\npage 1 of 1r\n"
        self.assert_fault(out_of_place + "\n", 1, CANNOT_STAND)
        self.assert_fault(out_of_place + "END\n", 1, CANNOT_STAND)
        self.assert_fault(out_of_place + "end   s\n", 1, CANNOT_STAND)
        self.assert_fault(out_of_place + "end   t", 1, CANNOT_STAND)
        wrong_sum = "page 1 of 1r\nend   s\n"
        self.assert_fault(wrong_sum + "\n", 1, WRONG_SUM)
        self.assert_fault(wrong_sum + "END", 1, WRONG_SUM)
        self.assert_fault(wrong_sum + "end   t\n", 1, WRONG_SUM)
        self.assert_fault("page 1 of 1r\n\n" + "page 1 of 1r\n", 1, NOT_SIGNS)
        self.assert_fault("page 1 of 1s\n\n", 0, WRONG_SUM)

    def test_ahead_of_the_early_end(self):
        self.assert_fault("page 2 of 2" + with_check_sign("page 2 of 2")[-1] + "\n", 0, CANNOT_STAND)
        self.assert_fault("page 1 of 2o\n", 0, WRONG_SUM)
        self.assert_fault("page 1 of 2n", 0, NOT_SIGNS)


class PageLines(ReadCase):
    """Here and in what follows, each line's check sign is right."""

    def test_first(self):
        for first in ("page 1 of 0", "page 1 of 5", "page 1 of 9", "page 1 of 10", "page 2 of 2", "page 0 of 1",
                      "page 1 of 01", "page 01 of 1", "page 1 of", "page 1 of ", "page 1", "page", "page  1 of 1",
                      " page 1 of 1", "page 1 of 1 ", "page 1  of 1", "page 1 of  1", "page 1 or 1", "page1 of 1",
                      "pages 1 of 1", "1 a 1", "1 page 1 of 2", "end", "end   ", "end ab", "a", "1"):
            with self.subTest(first=first):
                self.assert_fault(lines_text(first), 0, CANNOT_STAND)
                self.assert_fault(lines_text(first, "end   "), 0, CANNOT_STAND)
                self.assert_fault(lines_text(first, "1 a 1"), 0, CANNOT_STAND)

    def test_first_with_1_to_4(self):
        for page_count in (1, 2, 3, 4):
            text = lines_text(f"page 1 of {page_count}")
            self.assert_fault(text, 1, CANNOT_STAND)

    def test_each_other_number_first(self):
        for number in range(12):
            for page_count in range(12):
                can_stand = number == 1 and 1 <= page_count <= 4
                text = lines_text(f"page {number} of {page_count}")
                self.assert_fault(text, 1 if can_stand else 0, CANNOT_STAND)

    def test_behind_an_end(self):
        for page_count in (2, 3, 4):
            for page in range(1, page_count):
                for number in range(7):
                    for told_count in range(7):
                        text = full_pages(page, page_count) + lines_text(f"page {number} of {told_count}")
                        can_stand = (number, told_count) == (page + 1, page_count)
                        self.assert_fault(text, 22 * page + can_stand, CANNOT_STAND)

    def test_a_row_or_an_end_behind_an_end(self):
        for page_count in (2, 3, 4):
            for page in range(1, page_count):
                number = 20 * page + 1
                for other in (f"{number} a {number}", f"1 a {number}", "end   ", "end", "a"):
                    text = full_pages(page, page_count) + lines_text(other)
                    self.assert_fault(text, 22 * page, CANNOT_STAND)

    def test_on_a_page(self):
        for page in ("page 1 of 1", "page 1 of 2", "page 2 of 2"):
            self.assert_fault(lines_text("page 1 of 2", page), 1, CANNOT_STAND)
            self.assert_fault(lines_text("page 1 of 2", "1 a 1", page), 2, CANNOT_STAND)
            self.assert_fault(lines_text("page 1 of 2", *plain_words(1, 20), page), 21, CANNOT_STAND)

    def test_behind_the_last_end(self):
        for count, pages in PAGE_EDGES.items():
            text = board(plain_rows(count))
            lines = count + 2 * pages
            number = count + 1
            for other in (f"page {pages + 1} of {pages}", f"page {pages + 1} of {pages + 1}", f"page 1 of {pages}",
                          f"page {pages} of {pages}", f"{number} a {number}", "end   ", "a", " "):
                with self.subTest(count=count, other=other):
                    self.assert_fault(text + lines_text(other), lines, CANNOT_STAND)
            self.assert_fault(text + text, lines, CANNOT_STAND)


class Ends(ReadCase):
    def test_behind_fewer_than_20_rows_on_a_page_that_is_not_the_last(self):
        for page_count in (2, 3, 4):
            for page in range(page_count - 1):
                for count in range(20):
                    first = 20 * page + 1
                    last_page = page_text(f"page {page + 1} of {page_count}", plain_words(first, first + count - 1))
                    text = full_pages(page, page_count) + last_page
                    self.assert_fault(text, 22 * page + 1 + count, CANNOT_STAND)

    def test_behind_no_rows_on_the_last_of_more_pages(self):
        for page_count in (2, 3, 4):
            text = full_pages(page_count - 1, page_count) + page_text(f"page {page_count} of {page_count}", [])
            self.assert_fault(text, 22 * page_count - 21, CANNOT_STAND)

    def test_behind_1_to_20_rows_on_the_last(self):
        for page_count in (1, 2, 3, 4):
            for count in range(1, 21 if page_count < 4 else 5):
                first = 20 * page_count - 19
                last_page = page_text(f"page {page_count} of {page_count}", plain_words(first, first + count - 1))
                text = full_pages(page_count - 1, page_count) + last_page
                self.assertEqual(read_text(text), rows_answer(plain_rows(first + count - 1)))

    def test_each_other_sign_in_either_place(self):
        for count in (0, 1, 5, 20, 21, 64):
            lines = lines_of(board(plain_rows(count)))
            for number, line in enumerate(lines):
                if not line.startswith("end "):
                    continue
                for first in SIGNS:
                    for second in SIGNS:
                        if first + second != line[4:6]:
                            other = with_check_sign("end " + first + second)
                            text = text_of(lines[:number] + [other] + lines[number + 1:])
                            self.assert_fault(text, number, CANNOT_STAND)

    def test_otherwise_written(self):
        right = "end " + end_signs([with_check_sign("1 a 1")])
        for end in (right + " ", " " + right, right[:-1], "end", "end ", right.replace("d ", "d  "),
                    right.replace("d ", "d"), "and" + right[3:], "ende" + right[3:], "e" + right, right + right[-1]):
            with self.subTest(end=end):
                self.assertNotEqual(end, right)
                self.assert_fault(lines_text("page 1 of 1", "1 a 1", end), 2, CANNOT_STAND)

    def test_two_rows_exchanged(self):
        # Both rows are right either way round; the end's second sign tells of it.
        rows = [row(1, "a", 1), row(1, "b", 1)]
        lines = lines_of(board(rows))
        self.assert_fault(text_of([lines[0], lines[2], lines[1], lines[3]]), 3, CANNOT_STAND)

    def test_a_page_is_summed_by_itself(self):
        rows = plain_rows(21)
        lines = lines_of(board(rows))
        over_all = "end " + end_signs(lines[1:21] + [lines[23]])
        self.assertNotEqual(over_all, lines[24][:-1])
        text = text_of(lines[:24]) + lines_text(over_all)
        self.assert_fault(text, 24, CANNOT_STAND)


class TooManyRows(ReadCase):
    def test_a_21st_row_on_a_page(self):
        for page_count in (1, 2, 3, 4):
            text = lines_text(f"page 1 of {page_count}", *plain_words(1, 21))
            self.assert_fault(text, 21, CANNOT_STAND)
            text = page_text(f"page 1 of {page_count}", plain_words(1, 21))
            self.assert_fault(text, 21, CANNOT_STAND)
        for page_count in (2, 3):
            text = full_pages(page_count - 1, page_count)
            first = 20 * page_count - 19
            text += page_text(f"page {page_count} of {page_count}", plain_words(first, first + 20))
            self.assert_fault(text, 22 * page_count - 1, CANNOT_STAND)

    def test_a_65th_row(self):
        for last in (65, 66, 80):
            text = full_pages(3, 4) + page_text("page 4 of 4", plain_words(61, last))
            self.assert_fault(text, 71, CANNOT_STAND)
        text = full_pages(3, 4) + page_text("page 4 of 4", plain_words(61, 64))
        self.assertEqual(read_text(text), rows_answer(plain_rows(64)))


class Rows(ReadCase):
    def assert_wrong_row(self, before, wrong):
        """Behind these words of rows the wrong ones can't stand; with an end that fits them neither."""
        self.assert_fault(lines_text("page 1 of 1", *before, wrong), 1 + len(before), CANNOT_STAND)
        self.assert_fault(page_text("page 1 of 1", [*before, wrong]), 1 + len(before), CANNOT_STAND)

    def assert_right_rows(self, all_words, rows):
        self.assertEqual(read_text(page_text("page 1 of 1", all_words)), rows_answer(rows))

    def test_a_name_that_stood_before(self):
        self.assert_wrong_row(["1 a 1"], "2 a 2")
        self.assert_wrong_row(["1 a 1"], "1 a 1")
        self.assert_wrong_row(["1 a 1", "2 b 1"], "3 a 1")
        self.assert_right_rows(["1 a 1", "2 aa 1"], [row(1, "a", 1), row(2, "aa", 1)])

    def test_a_name_that_stood_on_an_earlier_page(self):
        for page in (1, 2, 3):
            for earlier in (1, 20 * page - 19, 20 * page):
                number = 20 * page + 1
                text = full_pages(page, 4) + lines_text(f"page {page + 1} of 4", f"{number} n{earlier} {number}")
                self.assert_fault(text, 22 * page + 1, CANNOT_STAND)

    def test_the_first_place(self):
        for place in (0, 2, 3, 10, 11, 64, 4294967296, 4294967297):
            self.assert_wrong_row([], f"{place} a 1")

    def test_another_place(self):
        before = ["1 a 1", "1 b 1", "3 c 1", "3 d 1"]
        for place in (0, 1, 2, 4, 6, 13, 33, 35, 53, 55, 64):
            self.assert_wrong_row(before, f"{place} e 1")
        rows = [row(1, "a", 1), row(1, "b", 1), row(3, "c", 1), row(3, "d", 1)]
        self.assert_right_rows(before + ["3 e 1"], rows + [row(3, "e", 1)])
        self.assert_right_rows(before + ["5 e 1"], rows + [row(5, "e", 1)])

    def test_another_place_on_a_later_page(self):
        for place in (1, 2, 19, 22):
            text = full_pages(1, 2) + page_text("page 2 of 2", [f"{place} a 21"])
            self.assert_fault(text, 23, CANNOT_STAND)

    def test_a_total_less(self):
        for greater, less in (("1", "0"), ("10", "9"), ("1 of 2", "1 of 3"), ("1", "9998 of 9999"),
                              ("9998 of 9999", "9997 of 9998"), ("999999", "999999 of 2"), ("1 of 9999", "0")):
            with self.subTest(greater=greater, less=less):
                self.assert_wrong_row([f"1 a {greater}"], f"2 b {less}")
                self.assert_wrong_row([f"1 a {greater}"], f"1 b {less}")
                self.assertEqual(read_text(page_text("page 1 of 1", [f"1 a {less}", f"2 b {greater}"]))[0], 2)

    def test_a_total_less_on_the_next_page(self):
        text = full_pages(1, 2) + page_text("page 2 of 2", ["21 a 19"])
        self.assert_fault(text, 23, CANNOT_STAND)

    def test_a_0_first(self):
        for wrong in ("01 a 1", "001 a 1", "1 a 01", "1 a 00", "1 a 000001", "1 a 1 of 02", "1 a 01 of 2",
                      "1 a 1 of 0002"):
            self.assert_wrong_row([], wrong)
        self.assert_wrong_row(["1 a 1"], "02 b 2")
        self.assert_wrong_row(["1 a 1"], "01 b 2")
        # In a name it may stand.
        self.assert_right_rows(["1 01 1"], [row(1, "01", 1)])

    def test_blanks(self):
        for wrong in ("1  a 1", "1 a  1", " 1 a 1", "1 a 1 ", "1 a 1  of 2", "1 a 1 of  2", " 1 a 1 of 2",
                      "1 a 1 of 2 ", "1  a 1 of 2", "1 a  1 of 2", "1  1", " a 1", "1 a ", "1   1", "1 a 1 of ",
                      "  ", " ", "    ", "1 a  of 2"):
            self.assert_wrong_row([], wrong)

    def test_a_denominator_that_is_not_written(self):
        for wrong in ("1 a 1 of 1", "1 a 0 of 1", "1 a 5 of 1", "1 a 999999 of 1"):
            self.assert_wrong_row([], wrong)

    def test_a_denominator_out_of_its_range(self):
        for wrong in ("1 a 1 of 0", "1 a 0 of 0", "1 a 1 of 10000", "1 a 1 of 10001", "1 a 7 of 99999",
                      "1 a 1 of 4294967297"):
            self.assert_wrong_row([], wrong)
        self.assert_right_rows(["1 a 1 of 9999"], [row(1, "a", 1, 9999)])

    def test_not_in_lowest_terms(self):
        for wrong in ("2 of 2", "2 of 4", "4 of 2", "6 of 9", "35 of 7", "999999 of 9999", "0 of 2", "0 of 9999"):
            self.assert_wrong_row([], f"1 a {wrong}")

    def test_a_numerator_too_great(self):
        for wrong in ("1000000", "1000001", "1000000 of 9999", "1000001 of 2", "4294967297", "99999999999999999999"):
            self.assert_wrong_row([], f"1 a {wrong}")
        self.assert_right_rows(["1 a 999999"], [row(1, "a", 999999)])

    def test_a_name_too_long(self):
        for length in (13, 14, 20, 30):
            self.assert_wrong_row([], f"1 {'a' * length} 1")
        self.assert_right_rows(["1 aaaaaaaaaaaa 1"], [row(1, "a" * 12, 1)])

    def test_of_missing_or_written_otherwise(self):
        for wrong in ("1 a 1 2", "1 a 1 fo 2", "1 a 1 off 2", "1 a 1 o 2", "1 a 1 f 2", "1 a 1of 2", "1 a 1 of2",
                      "1 a 1of2", "1 a 1 0f 2", "1 a 1 of of 2", "1 a 1 or 2", "1 a of 2", "1 a of 1 2"):
            self.assert_wrong_row([], wrong)

    def test_too_few_or_too_many_words(self):
        for wrong in ("1", "1 a", "a", "a 1", "1 1", "1 a 1 of", "1 a b 1", "1 a 1 of 2 3", "1 a 1 of 2 of 3",
                      "1 a 1 1 of 2", "1 a 1 a 1", "1 a 1 of 2 of"):
            self.assert_wrong_row([], wrong)

    def test_letters_for_a_number(self):
        for wrong in ("a a 1", "1a a 1", "a1 a 1", "1 a b", "1 a 1b", "1 a b1", "1 a 1 of b", "1 a 1 of 2b",
                      "1 a 1 of b2", "1 a b of 2", "one a 1"):
            self.assert_wrong_row([], wrong)

    def test_each_word_of_two_signs_is_no_row(self):
        for first in SIGNS:
            self.assert_wrong_row([], first)

    def test_a_name_of_any_word(self):
        for name in ("of", "page", "end", "1", "0", "2of3"):
            self.assert_right_rows([f"1 {name} 1 of 2"], [row(1, name, 1, 2)])
            self.assert_right_rows([f"1 {name} 1"], [row(1, name, 1)])


class AgainstTheSecondTelling(ReadCase):
    """Texts of many kinds, each against the boards that begin with its lines."""

    def spoilt_words(self, one, source):
        """Words that are near these ones; often they can stand all the same."""
        parts = one.split(" ")
        index = source.randrange(len(parts))
        way = source.randrange(6)
        if way == 0:
            parts[index] = str(source.choice((0, 1, 2, 5, 20, 21, 64, 65, 9999, 10000, 999999, 1000000)))
        elif way == 1:
            parts[index] = "0" + parts[index]
        elif way == 2:
            parts.pop(index)
        elif way == 3:
            parts.insert(index, source.choice(("", "of", "1", "a")))
        elif way == 4:
            parts[index] = source.choice(("", "of", "page", "end", "a", parts[0]))
        else:
            parts[-1:] = [parts[-1][:-1] + source.choice(SIGNS)]
        return " ".join(parts)[:35] or "a"

    def spoilt_lines(self, lines, source):
        index = source.randrange(len(lines))
        other = source.randrange(len(lines))
        way = source.randrange(7)
        lines = list(lines)
        if way == 0:
            lines[index], lines[other] = lines[other], lines[index]
        elif way == 1:
            lines.pop(index)
        elif way == 2:
            lines.insert(index, lines[other])
        elif way == 3:
            lines = lines[:index]
        elif way == 4:
            lines[index] = lines[index][:-1] + source.choice(SIGNS + "A\n~" * 20)
        else:
            lines[index] = with_check_sign(self.spoilt_words(lines[index][:-1], source))
        return lines

    def fitting_ends(self, lines):
        """The same lines, but each end fits the lines between it and its page's line."""
        fitted = []
        start = 0
        for line in lines:
            if line.startswith("page"):
                start = len(fitted) + 1
            if line.startswith("end ") and all(set(one) <= set(SIGNS) for one in fitted[start:]):
                line = with_check_sign("end " + end_signs([one or " " for one in fitted[start:]]))
            fitted.append(line)
        return fitted

    def test_spoilt_boards(self):
        source = random.Random(24)
        whys = {}
        for turn in range(1500):
            count = source.choice((0, 1, 2, 3, 5, 19, 20, 21, 22, 40, 41, 61, 64))
            lines = lines_of(board(random_rows(count, source)))
            for each in range(source.choice((1, 1, 2))):
                if lines:
                    lines = self.spoilt_lines(lines, source)
            if turn % 2:
                lines = self.fitting_ends(lines)
            text = text_of(lines)
            told = read_answer(text)
            why = told[2] if told[0] == -6 else 0
            whys[why] = whys.get(why, 0) + 1
            self.assertEqual(read_text(text), told, text)
        self.assertEqual(sorted(whys), [0, 1, 2, 3])
        self.assertGreater(min(whys.values()), 50, whys)


class NothingKept(KeepsNothing, unittest.TestCase):
    CALL = [read]
    HANDED_IN = [bytes_of(text) for text in (
        "",
        "\n",
        board([]),
        board(plain_rows(1)),
        board(plain_rows(21)),
        board(plain_rows(64)),
        board(plain_rows(64))[:-1],
        board(plain_rows(64)) + board([]),
        full_pages(1, 2),
        lines_text("page 1 of 2", "1 a 1", "2 a 2"),
        "page 1 of 1r\nend   s\n",
        "Page\n",
        "a" * 65537,
    )]


class WordsOfTheSamples(ReadCase):
    def test_plain_words_are_those_of_plain_rows(self):
        self.assertEqual(plain_words(1, 64), [words(one_row) for one_row in plain_rows(64)])


if __name__ == "__main__":
    unittest.main()
