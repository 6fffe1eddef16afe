"""Matrices that are made from others, or from numbers, and what is told of them."""

from goingon.form import Matrix
from goingon.whole import BYTE_TOP, held, line_sum


# A sum that isn't 0 never becomes 0 by being held, so it may be held last.
def held_line(pairs):
    return [(column, held(number, BYTE_TOP)) for column, number in pairs if number != 0]


def made(rows, columns, places, numbers):
    sums = [{} for row in range(rows)]
    for place, number in zip(places, numbers):
        row_sums = sums[place // columns]
        column = place % columns
        row_sums[column] = row_sums.get(column, 0) + number
    return Matrix(rows, columns, [held_line(sorted(row_sums.items())) for row_sums in sums])


def full_numbers(matrix):
    numbers = []
    for line in matrix.lines:
        full_line = [0] * matrix.columns
        for column, number in line:
            full_line[column] = number
        numbers.extend(full_line)
    return numbers


def turned(matrix):
    lines = [[] for column in range(matrix.columns)]
    for row, line in enumerate(matrix.lines):
        for column, number in line:
            lines[column].append((row, number))
    return Matrix(matrix.columns, matrix.rows, lines)


def times(matrix, given):
    return [line_sum(line, given) for line in matrix.lines]


def summed(a, b):
    return Matrix(a.rows, a.columns, [summed_line(line, other) for line, other in zip(a.lines, b.lines)])


def summed_line(line, other):
    sums = dict(line)
    for column, number in other:
        sums[column] = sums.get(column, 0) + number
    return held_line(sorted(sums.items()))


def picked(matrix, chosen):
    return Matrix(len(chosen), matrix.columns, [matrix.lines[row] for row in chosen])


def thinned(matrix, least):
    return Matrix(matrix.rows, matrix.columns, [thinned_line(line, least) for line in matrix.lines])


def thinned_line(line, least):
    return [(column, number) for column, number in line if abs(number) >= least]
