"""The board as the document tells it, written apart from the program.

Nothing here is drawn from the package, so that a fault there is not repeated here.
"""

SIGNS = " abcdefghijklmnopqrstuvwxyz0123456789"


def row(place, name, numerator, denominator=1):
    return [place, numerator, denominator] + [ord(letter) for letter in name]


def answer(text):
    """What print_of answers if the board is this text."""
    return [len(text)] + [ord(letter) for letter in text]


def line_sum(line):
    return sum(place * SIGNS.index(sign) for place, sign in enumerate(line, start=1))


def with_check_sign(words):
    found = [words + sign for sign in SIGNS if line_sum(words + sign) % 37 == 0]
    if len(found) != 1:
        raise ValueError(f"{len(found)} check signs for {words!r}")
    return found[0]


def words(one_row):
    place, numerator, denominator = one_row[:3]
    name = "".join(chr(byte) for byte in one_row[3:])
    total = f"{numerator}" if denominator == 1 else f"{numerator} of {denominator}"
    return f"{place} {name} {total}"


def end_signs(row_lines):
    worths = [SIGNS.index(line[-1]) for line in row_lines]
    first = second = 0
    for number, worth in enumerate(worths, start=1):
        first += worth
        second += number * worth
    return SIGNS[first % 37] + SIGNS[second % 37]


def board(rows):
    pages = [rows[start:start + 20] for start in range(0, len(rows), 20)] or [[]]
    lines = []
    for number, page in enumerate(pages, start=1):
        row_lines = [with_check_sign(words(one_row)) for one_row in page]
        lines.append(with_check_sign(f"page {number} of {len(pages)}"))
        lines.extend(row_lines)
        lines.append(with_check_sign("end " + end_signs(row_lines)))
    return "".join(line + "\n" for line in lines)
