"""The board: right rows as pages of lines."""

from handboard.lines import SIGN_COUNT, line_of, sign_of, signs_of, weighted_sum, worth_of
from handboard.rows import words_of

LINE_FEED = 10
ROWS_ON_A_PAGE = 20
MOST_PAGES = 4


def page_words(number, page_count):
    return signs_of(f"page {number} of {page_count}")


def end_words(row_lines):
    """The words of a page's end, from the lines of the page's rows."""
    worths = [worth_of(line[-1]) for line in row_lines]
    first = sign_of(sum(worths) % SIGN_COUNT)
    second = sign_of(weighted_sum(worths) % SIGN_COUNT)
    return signs_of("end ") + [first, second]


def page_lines(rows, number, page_count):
    row_lines = [line_of(words_of(row)) for row in rows]
    head = line_of(page_words(number, page_count))
    end = line_of(end_words(row_lines))
    return [head] + row_lines + [end]


def page_count_of(row_count):
    # Without rows there is a page all the same.
    return max(1, (row_count + ROWS_ON_A_PAGE - 1) // ROWS_ON_A_PAGE)


def board_of(rows):
    """The bytes of these right rows' board."""
    page_count = page_count_of(len(rows))
    text = []
    for number in range(1, page_count + 1):
        start = (number - 1) * ROWS_ON_A_PAGE
        for line in page_lines(rows[start:start + ROWS_ON_A_PAGE], number, page_count):
            text.extend(line + [LINE_FEED])
    return text
