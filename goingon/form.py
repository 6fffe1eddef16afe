"""The form of a sparse matrix."""

from goingon.reader import Fault

MOST_ROWS = 4096
MOST_COLUMNS = 4096
MOST_PLACES = 1048576
BLOCK = 64


# lines has for each row the pairs (column, number) of what isn't 0.
class Matrix:
    def __init__(self, rows, columns, lines):
        self.rows = rows
        self.columns = columns
        self.lines = lines


def read_matrix(reader):
    rows = reader.unsigned_within(2, 1, MOST_ROWS)
    start = reader.at
    columns = reader.unsigned_within(2, 1, MOST_COLUMNS)
    if rows * columns > MOST_PLACES:
        raise Fault(start, 2)
    lines = [read_line(reader, columns) for row in range(rows)]
    return Matrix(rows, columns, lines)


def read_line(reader, columns):
    line = []
    for first in range(0, columns, BLOCK):
        line.extend(read_block(reader, first, min(BLOCK, columns - first)))
    return line


def read_block(reader, first, wide):
    start = reader.at
    mask = reader.unsigned(8)
    if mask >> wide:
        raise Fault(start, 4)
    pairs = []
    column = first
    while mask:
        if mask & 1:
            pairs.append((column, read_entry(reader)))
        mask = mask >> 1
        column += 1
    return pairs


def read_entry(reader):
    start = reader.at
    number = reader.signed(1)
    if number == 0:
        raise Fault(start, 3)
    return number


def read_told_lines(reader, rows, columns):
    start = reader.at
    matrix = read_matrix(reader)
    if matrix.rows != rows or matrix.columns != columns:
        raise Fault(start, 6)
    return matrix.lines
