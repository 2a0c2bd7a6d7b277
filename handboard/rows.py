"""Rows as they are handed in: place, numerator, denominator, then the name's bytes."""

from handboard.lines import BLANK, FIRST_DIGIT, is_digit, is_letter, signs_of

MOST_ROWS = 64
LONGEST_NAME = 12
GREATEST_NUMERATOR = 999999
GREATEST_DENOMINATOR = 9999


def place_of(row):
    return row[0]


def numerator_of(row):
    return row[1]


def denominator_of(row):
    return row[2]


def name_of(row):
    return row[3:]


def is_name(name):
    if not 1 <= len(name) <= LONGEST_NAME:
        return False
    return all([is_letter(byte) or is_digit(byte) for byte in name])


def greatest_divisor(first, second):
    """The greatest number that divides both; of 0 and another it is the other."""
    greater = first
    less = second
    while less != 0:
        rest = greater % less
        greater = less
        less = rest
    return greater


def is_total(numerator, denominator):
    if numerator > GREATEST_NUMERATOR:
        return False
    if not 1 <= denominator <= GREATEST_DENOMINATOR:
        return False
    # This holds of nothing, too: 0 and n are both divided by n, so that only 0 and 1 pass.
    return greatest_divisor(numerator, denominator) == 1


def is_total_less(row, other):
    """Whether the row's total is less than the other's; neither denominator is 0."""
    return numerator_of(row) * denominator_of(other) < numerator_of(other) * denominator_of(row)


def is_right_behind(row, before):
    """Whether the row is right behind the rows before it, which are right themselves."""
    if not is_name(name_of(row)) or not is_total(numerator_of(row), denominator_of(row)):
        return False
    if len(before) == 0:
        return place_of(row) == 1
    last = before[-1]
    if place_of(row) != place_of(last) and place_of(row) != len(before) + 1:
        return False
    if is_total_less(row, last):
        return False
    return name_of(row) not in [name_of(earlier) for earlier in before]


def are_right(rows):
    """Whether these rows, at most 64, are right."""
    for index, row in enumerate(rows):
        if not is_right_behind(row, rows[:index]):
            return False
    return True


def words_of(row):
    words = signs_of(str(place_of(row))) + [BLANK] + name_of(row) + [BLANK] + signs_of(str(numerator_of(row)))
    if denominator_of(row) != 1:
        words.extend(signs_of(" of ") + signs_of(str(denominator_of(row))))
    return words


def split_at_blanks(signs):
    parts = [[]]
    for sign in signs:
        if sign == BLANK:
            parts.append([])
        else:
            parts[-1].append(sign)
    return parts


def number_of(digits):
    number = 0
    for digit in digits:
        number = number * 10 + digit - FIRST_DIGIT
    return number


def row_of(words):
    """The row that has these words; None if no row is written so."""
    parts = split_at_blanks(words)
    if len(parts) == 3:
        parts = parts + [signs_of("of"), signs_of("1")]
    if len(parts) != 5:
        return None
    numbers = [number_of(digits) for digits in [parts[0], parts[2], parts[4]]]
    row = numbers + parts[1]
    # A row has one way of writing: a 0 first, a letter in a number, a part that is
    # empty or another word than of come out changed when the row is written again.
    return row if words_of(row) == words else None
