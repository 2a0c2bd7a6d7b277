"""The calls of the notice board."""

from handboard.board import board_of
from handboard.rows import MOST_ROWS, are_right

TOO_MANY = -2
NOT_RIGHT = -8


def print_of(rows):
    """How many bytes the board of these rows has, then they; or a refusal."""
    if len(rows) > MOST_ROWS:
        return [TOO_MANY]
    if not are_right(rows):
        return [NOT_RIGHT]
    text = board_of(rows)
    return [len(text)] + text
