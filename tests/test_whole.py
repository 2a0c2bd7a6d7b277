"""The whole program: its interface, its three promises over boards of many kinds, the calls one after another."""

import inspect
import json
import pathlib
import random
import subprocess
import sys
import unittest

from handboard import desk
from tests.expected import (
    board,
    bytes_of,
    plain_rows,
    random_rows,
    row,
    rows_answer,
    with_each_other_sign,
    with_neighbours_exchanged,
)

ROOT = pathlib.Path(__file__).resolve().parent.parent
CALLS = {"print_of": "rows", "read": "text", "sign": "signs", "right": "signs", "mends": "signs"}


def boards():
    """Rows of many kinds: each number of rows by random ones, and some that were chosen."""
    source = random.Random(70)
    for count in range(65):
        yield random_rows(count, source)
    yield [row(1, f"n{number}", 0) for number in range(64)]
    yield [row(number, f"{number}", 999998, 9999) for number in range(1, 65)]
    yield [row(number, "of" + "z" * 8 + str(number + 9), number, 9973) for number in range(1, 65)]
    yield [row(1 if number < 33 else 33, "page"[:1 + number % 4] + str(number), number) for number in range(1, 65)]


def rows_told(told):
    """The rows, as they are handed in, of an answer of read."""
    rows = []
    rest = told[1:]
    while rest:
        length = rest[0]
        rows.append(rest[1 + length:4 + length] + rest[1:1 + length])
        rest = rest[4 + length:]
    return rows


class Interface(unittest.TestCase):
    def test_names_and_arguments(self):
        for name, argument in CALLS.items():
            self.assertEqual(list(inspect.signature(getattr(desk, name)).parameters), [argument])

    def test_by_the_name_of_the_argument(self):
        self.assertEqual(desk.print_of(rows=[])[0], 21)
        self.assertEqual(desk.read(text=[]), [-6, 0, 3])
        self.assertEqual(desk.sign(signs=bytes_of("a")), bytes_of("r"))
        self.assertEqual(desk.right(signs=bytes_of("ar")), [1])
        self.assertEqual(desk.mends(signs=bytes_of("ar")), [0])


class Promises(unittest.TestCase):
    def test_1_what_is_printed_is_read(self):
        for rows in boards():
            printed = desk.print_of(rows)
            self.assertEqual(printed, [len(board(rows))] + bytes_of(board(rows)))
            told = desk.read(printed[1:])
            self.assertEqual(told, rows_answer(rows))
            self.assertEqual(rows_told(told), rows)

    def test_1_a_text_that_is_read_is_what_is_printed(self):
        # Whatever is read as a board must be the one text of the rows that were told.
        source = random.Random(71)
        for rows in boards():
            text = desk.print_of(rows)[1:]
            for turn in range(20):
                index = source.randrange(len(text))
                other = text[:index] + [source.choice(text)] + text[index + source.choice((0, 1, 2)):]
                told = desk.read(other)
                if told[0] == -6:
                    self.assertEqual(len(told), 3)
                else:
                    self.assertEqual(desk.print_of(rows_told(told)), [len(other)] + other)

    def test_2_and_3_every_line_of_boards(self):
        source = random.Random(72)
        for rows in boards():
            lines = bytes(desk.print_of(rows)[1:]).decode("ascii").splitlines()
            for number, line in enumerate(lines):
                spoilt_lines = source.sample(list(with_each_other_sign(line)), 4)
                spoilt_lines.extend(source.sample(list(with_neighbours_exchanged(line)), 1))
                for spoilt in spoilt_lines:
                    self.assert_seen_and_mended(lines, number, spoilt)

    def assert_seen_and_mended(self, lines, number, spoilt):
        line = bytes_of(lines[number])
        signs = bytes_of(spoilt)
        text = "".join(one + "\n" for one in lines[:number] + [spoilt] + lines[number + 1:])
        self.assertEqual(desk.right(line), [1])
        self.assertEqual(desk.right(signs), [0])
        self.assertEqual(desk.read(bytes_of(text)), [-6, number, 2])
        told = desk.mends(signs)
        mended = [told[start:start + len(line)] for start in range(1, len(told), len(line))]
        self.assertEqual(mended.count(line), 1)
        self.assertEqual(desk.sign(line[:-1]), line[-1:])


class OneAfterAnother(unittest.TestCase):
    HANDED_IN = (
        ("print_of", []),
        ("print_of", plain_rows(21)),
        ("print_of", plain_rows(65)),
        ("print_of", [row(1, "a", 2), row(2, "b", 1)]),
        ("read", []),
        ("read", bytes_of(board(plain_rows(21)))),
        ("read", bytes_of(board(plain_rows(64)))[:-1]),
        ("read", bytes_of(board(plain_rows(3)))[:20]),
        ("read", [10] * 65537),
        ("sign", bytes_of("1 anna 0")),
        ("sign", bytes_of("")),
        ("right", bytes_of("1 anna 09")),
        ("right", bytes_of("1 anan 09")),
        ("right", bytes_of("A")),
        ("mends", bytes_of("1 anna 09")),
        ("mends", bytes_of("1 anan 09")),
        ("mends", bytes_of("a" * 37)),
    )

    def told_by_itself(self, name, handed_in):
        """What the call answers as the first and only one of a new Python."""
        program = (
            "import json, sys; from handboard import desk; "
            "print(json.dumps(getattr(desk, sys.argv[1])(json.load(sys.stdin))))"
        )
        ended = subprocess.run(
            [sys.executable, "-B", "-c", program, name],
            input=json.dumps(handed_in), cwd=ROOT, capture_output=True, text=True, check=True,
        )
        self.assertEqual(ended.stderr, "")
        return json.loads(ended.stdout)

    def test_in_any_order_as_by_itself(self):
        told = [self.told_by_itself(name, handed_in) for name, handed_in in self.HANDED_IN]
        source = random.Random(73)
        order = list(range(len(told))) * 2
        for turn in range(60):
            source.shuffle(order)
            for index in order:
                name, handed_in = self.HANDED_IN[index]
                self.assertEqual(getattr(desk, name)(handed_in), told[index], name)


if __name__ == "__main__":
    unittest.main()
