"""The form of a sparse matrix."""

from goingon.reader import Fault
from goingon.whole import outside

MOST_ROWS = 4096
MOST_COLUMNS = 4096
MOST_PLACES = 1048576
BLOCK = 64


# lines has for each row the pairs (column, number) of what isn't 0.
class Matrix:
    def __init__(self, rows, columns, lines):
        self.rows = rows
        self.columns = columns
        self.lines = lines


def shape_fits(rows, columns):
    if outside(rows, 1, MOST_ROWS) or outside(columns, 1, MOST_COLUMNS):
        return False
    return rows * columns <= MOST_PLACES


def read_matrix(reader):
    rows = reader.unsigned_within(2, 1, MOST_ROWS)
    start = reader.at
    columns = reader.unsigned_within(2, 1, MOST_COLUMNS)
    if not shape_fits(rows, columns):
        raise Fault(start, 2)
    lines = [read_line(reader, columns) for row in range(rows)]
    return Matrix(rows, columns, lines)


def read_line(reader, columns):
    line = []
    for first in range(0, columns, BLOCK):
        line.extend(read_block(reader, first, min(BLOCK, columns - first)))
    return line


def read_block(reader, first, wide):
    start = reader.at
    mask = reader.unsigned(8)
    if mask >> wide:
        raise Fault(start, 4)
    pairs = []
    column = first
    while mask:
        if mask & 1:
            pairs.append((column, read_entry(reader)))
        mask = mask >> 1
        column += 1
    return pairs


def read_entry(reader):
    start = reader.at
    number = reader.signed(1)
    if number == 0:
        raise Fault(start, 3)
    return number


def read_told_lines(reader, rows, columns):
    start = reader.at
    matrix = read_matrix(reader)
    if matrix.rows != rows or matrix.columns != columns:
        raise Fault(start, 6)
    return matrix.lines


def block_count(columns):
    return (columns + BLOCK - 1) // BLOCK


def form_size(matrix):
    return 4 + 8 * matrix.rows * block_count(matrix.columns) + how_many(matrix)


def how_many(matrix):
    return sum([len(line) for line in matrix.lines])


def form_bytes(matrix):
    data = little(matrix.rows, 2) + little(matrix.columns, 2)
    for line in matrix.lines:
        data.extend(line_bytes(line, block_count(matrix.columns)))
    return data


def line_bytes(line, blocks):
    masks = [0] * blocks
    numbers = [[] for block in range(blocks)]
    for column, number in line:
        block = column // BLOCK
        masks[block] += 1 << (column % BLOCK)
        numbers[block].append(number % 256)
    data = []
    for mask, entries in zip(masks, numbers):
        data.extend(little(mask, 8))
        data.extend(entries)
    return data


def little(number, size):
    return [(number >> (8 * digit)) % 256 for digit in range(size)]
