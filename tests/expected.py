"""The board as the document tells it, written apart from the program; and samples for the tests.

Nothing here is drawn from the package, so that a fault there is not repeated here.
"""

import bisect
import copy
import functools
import re
from fractions import Fraction

SIGNS = " abcdefghijklmnopqrstuvwxyz0123456789"
NO_SIGN_BYTES = [byte for byte in range(256) if chr(byte) not in SIGNS]
# How many pages there are of so many rows.
PAGE_EDGES = {0: 1, 1: 1, 2: 1, 19: 1, 20: 1, 21: 2, 39: 2, 40: 2, 41: 3, 59: 3, 60: 3, 61: 4, 63: 4, 64: 4}


def row(place, name, numerator, denominator=1):
    return [place, numerator, denominator] + bytes_of(name)


def bytes_of(text):
    return [ord(letter) for letter in text]


def answer(text):
    """What print_of answers if the board is this text."""
    return [len(text)] + bytes_of(text)


def line_sum(line):
    return sum(place * SIGNS.index(sign) for place, sign in enumerate(line, start=1))


@functools.lru_cache(maxsize=None)
def with_check_sign(words):
    found = [words + sign for sign in SIGNS if line_sum(words + sign) % 37 == 0]
    if len(found) != 1:
        raise ValueError(f"{len(found)} check signs for {words!r}")
    return found[0]


def words(one_row):
    place, numerator, denominator = one_row[:3]
    name = "".join(chr(byte) for byte in one_row[3:])
    total = f"{numerator}" if denominator == 1 else f"{numerator} of {denominator}"
    return f"{place} {name} {total}"


def end_signs(row_lines):
    worths = [SIGNS.index(line[-1]) for line in row_lines]
    first = second = 0
    for number, worth in enumerate(worths, start=1):
        first += worth
        second += number * worth
    return SIGNS[first % 37] + SIGNS[second % 37]


def board(rows):
    pages = [rows[start:start + 20] for start in range(0, len(rows), 20)] or [[]]
    lines = []
    for number, page in enumerate(pages, start=1):
        row_lines = [with_check_sign(words(one_row)) for one_row in page]
        lines.append(with_check_sign(f"page {number} of {len(pages)}"))
        lines.extend(row_lines)
        lines.append(with_check_sign("end " + end_signs(row_lines)))
    return "".join(line + "\n" for line in lines)


def with_each_other_sign(line):
    """All that comes of the line by another sign at one place."""
    for index, sign in enumerate(line):
        for other in SIGNS:
            if other != sign:
                yield line[:index] + other + line[index + 1:]


def with_neighbours_exchanged(line):
    """All that comes of the line by two different neighbours exchanged."""
    for index in range(len(line) - 1):
        if line[index] != line[index + 1]:
            yield line[:index] + line[index + 1] + line[index] + line[index + 2:]


def mends_answer(signs):
    """What mends answers of these 2 to 36 signs: each way is tried, with no thought of how they come about."""
    tried = [*with_each_other_sign(signs), *with_neighbours_exchanged(signs)]
    lines = sorted({line.encode("ascii") for line in tried if line_sum(line) % 37 == 0})
    return [len(lines), *b"".join(lines)]


def lines_text(*all_words):
    """A text of lines with these words, each with its check sign and a line feed."""
    return "".join(with_check_sign(words) + "\n" for words in all_words)


def rows_answer(rows):
    """What read answers if the board has these rows."""
    told = [len(rows)]
    for one_row in rows:
        name = one_row[3:]
        told += [len(name), *name, *one_row[:3]]
    return told


def are_right(rows):
    names = ["".join(chr(byte) for byte in one_row[3:]) for one_row in rows]
    if len(set(names)) < len(names) or not all(re.fullmatch("[a-z0-9]{1,12}", name) for name in names):
        return False
    if not all(numerator <= 999999 and 1 <= denominator <= 9999 for _, numerator, denominator, *_ in rows):
        return False
    totals = [Fraction(numerator, denominator) for _, numerator, denominator, *_ in rows]
    if [[total.numerator, total.denominator] for total in totals] != [one_row[1:3] for one_row in rows]:
        return False
    places = [one_row[0] for one_row in rows]
    if not all(place in (number, ([1] + places)[number - 1]) for number, place in enumerate(places, start=1)):
        return False
    return totals == sorted(totals)


def rows_in(lines):
    """The rows of those lines that look like a row's."""
    found = [re.fullmatch("([0-9]+) ([^ ]+) ([0-9]+)( of ([0-9]+))?.", line) for line in lines]
    return [row(int(one[1]), one[2], int(one[3]), int(one[5] or 1)) for one in found if one]


def begins_a_board(lines):
    """Whether some right rows' board begins with these lines.

    Rows that are not told yet may be any right ones: here they repeat the last place and total.
    """
    rows = rows_in(lines)
    place, numerator, denominator = rows[-1][:3] if rows else (1, 0, 1)
    names = [f"more{number}than{len(rows)}" for number in range(64)]
    taken = ["".join(chr(byte) for byte in one_row[3:]) for one_row in rows]
    free = [name for name in names if name not in taken]
    if len(rows) > 64 or not are_right(rows):
        return False
    text = "".join(line + "\n" for line in lines)
    for count in range(len(rows), 65):
        more = [row(place, name, numerator, denominator) for name in free[:count - len(rows)]]
        if len(rows + more) == count and board(rows + more).startswith(text):
            return True
    return False


def read_answer(text):
    """What read answers of a text of at most 65,536 signs; told by the boards that begin alike."""
    pieces = re.findall("[^\n]*\n|[^\n]+$", text)
    spoilt = [
        (number, 2 if re.fullmatch("[a-z0-9 ]{2,36}\n", piece) else 1)
        for number, piece in enumerate(pieces)
        if not re.fullmatch("[a-z0-9 ]{2,36}\n", piece) or line_sum(piece[:-1]) % 37 != 0
    ]
    number, why = spoilt[0] if spoilt else (len(pieces), 3)
    lines = [piece[:-1] for piece in pieces[:number]]
    # If so many lines begin no board, then more don't either: the first such number is searched for.
    fewest = bisect.bisect_left(range(number + 1), True, key=lambda count: not begins_a_board(lines[:count]))
    if fewest <= number:
        return [-6, fewest - 1, 3]
    rows = rows_in(lines)
    if board(rows) == text:
        return rows_answer(rows)
    return [-6, number, why]


def random_signs(count, source):
    return "".join(source.choice(SIGNS) for each in range(count))


def with_a_byte_that_is_no_sign(counts):
    """Lists of so many bytes: each byte that is no sign by itself, first, in the middle and last among signs."""
    for count in counts:
        for byte in NO_SIGN_BYTES:
            for index in (0, count // 2, count - 1):
                signs = bytes_of((SIGNS[1:] + SIGNS)[:count])
                signs[index] = byte
                yield signs


class Unchangeable(list):
    """A list that tells of any try to change it, even one that is taken back."""

    def refuse(self, *args, **kwargs):
        raise AssertionError("what was handed in is being changed")

    append = clear = extend = insert = pop = remove = reverse = sort = refuse
    __setitem__ = __delitem__ = __iadd__ = __imul__ = refuse


def watched(handed_in):
    return Unchangeable([watched(one) if isinstance(one, list) else one for one in handed_in])


class KeepsNothing:
    """For a test case of one call: CALL is a list of just this function, HANDED_IN what it is tried with."""

    def test_what_is_handed_in_stays(self):
        for handed_in in self.HANDED_IN:
            with self.subTest(handed_in=handed_in[:100]):
                before = copy.deepcopy(handed_in)
                told = self.CALL[0](handed_in)
                self.assertEqual(handed_in, before)
                self.assertEqual(self.CALL[0](watched(handed_in)), told)

    def test_two_calls_answer_alike(self):
        for handed_in in self.HANDED_IN:
            first = self.CALL[0](handed_in)
            self.assertEqual(self.CALL[0](handed_in), first)
            for between in self.HANDED_IN:
                self.CALL[0](between)
                self.assertEqual(self.CALL[0](handed_in), first)

    def test_an_answer_is_its_callers_own(self):
        for handed_in in self.HANDED_IN:
            first = self.CALL[0](handed_in)
            kept = list(first)
            first.append(0)
            first[0] = 0
            self.assertEqual(self.CALL[0](handed_in), kept)

    def test_answers_are_lists_of_whole_numbers(self):
        for handed_in in self.HANDED_IN:
            told = self.CALL[0](handed_in)
            self.assertIs(type(told), list)
            self.assertEqual({type(number) for number in told}, {int})


def plain_rows(count):
    """Right rows without anything special: each place its own number, totals 1, 2, 3 .."""
    return [row(number, f"n{number}", number) for number in range(1, count + 1)]


def random_rows(count, source):
    """Right rows of many kinds: equal places and totals, whole ones and fractions, nothing."""
    names = {}
    while len(names) < count:
        length = source.randint(1, 12)
        names["".join(source.choice(SIGNS[1:]) for each in range(length))] = True
    totals = [Fraction(0)] * source.randint(0, 2)
    while len(totals) < count:
        top = source.choice((9, 999, 999999))
        bottom = source.choice((1, 1, 9, 9999))
        totals.append(Fraction(source.randint(0, top), source.randint(1, bottom)))
    rows = []
    place = 1
    for number, (name, total) in enumerate(zip(names, sorted(totals[:count])), start=1):
        place = source.choice((place, number))
        rows.append(row(place, name, total.numerator, total.denominator))
    return rows
