"""The calls of the notice board."""

from handboard.board import board_of
from handboard.lines import LONGEST_LINE, SHORTEST_LINE, are_signs, check_sign, is_line
from handboard.mending import mended_lines
from handboard.reading import CANNOT_STAND, NO_FAULT, Reading, pieces_of, take_piece
from handboard.rows import MOST_ROWS, are_right, denominator_of, name_of, numerator_of, place_of

TOO_MANY = -2
AT_FAULT = -6
NOT_FITTING = -8
MOST_BYTES = 65536


def print_of(rows):
    """How many bytes the board of these rows has, then they; or a refusal."""
    if len(rows) > MOST_ROWS:
        return [TOO_MANY]
    if not are_right(rows):
        return [NOT_FITTING]
    text = board_of(rows)
    return [len(text)] + text


def told_row(row):
    name = name_of(row)
    return [len(name)] + name + [place_of(row), numerator_of(row), denominator_of(row)]


def read(text):
    """How many rows the board has, then what is told of each; or a refusal."""
    if len(text) > MOST_BYTES:
        return [TOO_MANY]
    reading = Reading()
    pieces = pieces_of(text)
    for number, piece in enumerate(pieces):
        why = take_piece(reading, piece)
        if why != NO_FAULT:
            return [AT_FAULT, number, why]
    if not reading.is_whole():
        return [AT_FAULT, len(pieces), CANNOT_STAND]
    answer = [len(reading.rows)]
    for row in reading.rows:
        answer.extend(told_row(row))
    return answer


def sign(signs):
    """The check sign that makes of these signs a line; or a refusal."""
    # The check sign is one sign of the line itself.
    if not are_signs(signs, SHORTEST_LINE - 1, LONGEST_LINE - 1):
        return [NOT_FITTING]
    return [check_sign(signs)]


def right(signs):
    """1 if these signs are a line, 0 if they are none; or a refusal."""
    if not are_signs(signs, SHORTEST_LINE, LONGEST_LINE):
        return [NOT_FITTING]
    return [1 if is_line(signs) else 0]


def mends(signs):
    """How many lines these signs may have been, then these lines; or a refusal."""
    if not are_signs(signs, SHORTEST_LINE, LONGEST_LINE):
        return [NOT_FITTING]
    lines = mended_lines(signs)
    answer = [len(lines)]
    for line in lines:
        answer.extend(line)
    return answer
