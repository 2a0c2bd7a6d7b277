"""Reading a board, line by line: what can stand where, and what is at fault."""

from handboard.board import LINE_FEED, MOST_PAGES, ROWS_ON_A_PAGE, end_words, page_words
from handboard.lines import LONGEST_LINE, SHORTEST_LINE, are_signs, is_line
from handboard.rows import MOST_ROWS, is_right_behind, row_of

NO_FAULT = 0
NOT_SIGNS = 1
WRONG_SUM = 2
CANNOT_STAND = 3


# The board's lines up to here: each could stand behind those before it.
class Reading:
    def __init__(self):
        # How many pages there are is told by the first line.
        self.page_count = 0
        self.page_number = 0
        self.on_page = False
        self.rows = []
        self.row_lines = []

    def is_whole(self):
        return self.page_count > 0 and self.page_number == self.page_count and not self.on_page

    def take_line(self, line):
        """Goes on with this line and tells True; tells False if it cannot stand here."""
        if not self.on_page:
            return self.take_page_line(line)
        return self.take_row(line) or self.take_end(line)

    def page_counts(self):
        """How many pages the next page's line may tell."""
        if self.page_number == 0:
            return list(range(1, MOST_PAGES + 1))
        if self.page_number < self.page_count:
            return [self.page_count]
        return []

    def take_page_line(self, line):
        number = self.page_number + 1
        for page_count in self.page_counts():
            if line[:-1] == page_words(number, page_count):
                self.page_count = page_count
                self.page_number = number
                self.on_page = True
                self.row_lines = []
                return True
        return False

    def has_room(self):
        return len(self.row_lines) < ROWS_ON_A_PAGE and len(self.rows) < MOST_ROWS

    def take_row(self, line):
        row = row_of(line[:-1])
        if row is None or not self.has_room() or not is_right_behind(row, self.rows):
            return False
        self.rows.append(row)
        self.row_lines.append(line)
        return True

    def can_end(self):
        if self.page_number < self.page_count:
            return len(self.row_lines) == ROWS_ON_A_PAGE
        return len(self.row_lines) > 0 or self.page_count == 1

    def take_end(self, line):
        if not self.can_end() or line[:-1] != end_words(self.row_lines):
            return False
        self.on_page = False
        return True


def pieces_of(text):
    """The text's lines, each with its line feed; the last may be without."""
    pieces = []
    start = 0
    for index, byte in enumerate(text):
        if byte == LINE_FEED:
            pieces.append(text[start:index + 1])
            start = index + 1
    if start < len(text):
        pieces.append(text[start:])
    return pieces


def take_piece(reading, piece):
    """Goes on with the next piece of the text; tells why it is at fault, if it is."""
    line = piece[:-1]
    if piece[-1] != LINE_FEED or not are_signs(line, SHORTEST_LINE, LONGEST_LINE):
        return NOT_SIGNS
    if not is_line(line):
        return WRONG_SUM
    if not reading.take_line(line):
        return CANNOT_STAND
    return NO_FAULT
