"""Calls that are each by themselves."""

from goingon.form import MOST_COLUMNS, MOST_ROWS, form_bytes, form_size, how_many, read_matrix, shape_fits
from goingon.matrices import full_numbers, made, picked, summed, thinned, times, turned
from goingon.packing import product
from goingon.reader import Fault, Reader
from goingon.weights import MOST_NET_BYTES, Net
from goingon.whole import outside

MOST_BYTES = 2097152
MOST_PAIRS = 65536
MOST_SHIFT = 30
MOST_THIN = 128


def few_check(s):
    if len(s) > MOST_BYTES:
        return [-1]
    try:
        matrix = whole_matrix(s)
    except Fault as fault:
        return [-2, fault.place, fault.kind]
    return [0, matrix.rows, matrix.columns, how_many(matrix)]


def few_make(rows, cols, most, place, value):
    if len(place) > MOST_PAIRS or outside(most, 0, MOST_BYTES) or not shape_fits(rows, cols):
        return [-1]
    if any([number >= rows * cols for number in place]):
        return [-3]
    return form_answer(made(rows, cols, place, value), most)


def few_full(most, s):
    if len(s) > MOST_BYTES or outside(most, 0, MOST_BYTES):
        return [-1]
    matrix = sound_matrix(s)
    if matrix is None:
        return [-2]
    places = matrix.rows * matrix.columns
    if places > most:
        return [-4]
    return [places] + full_numbers(matrix)


def few_turn(most, s):
    if len(s) > MOST_BYTES or outside(most, 0, MOST_BYTES):
        return [-1]
    matrix = sound_matrix(s)
    if matrix is None:
        return [-2]
    return form_answer(turned(matrix), most)


def few_times(most, s, x):
    return times_answer(most, s, x, False)


def few_back(most, s, x):
    return times_answer(most, s, x, True)


def few_product(sh, most, a, b):
    if max(len(a), len(b)) > MOST_BYTES or outside(most, 0, MOST_BYTES) or outside(sh, 0, MOST_SHIFT):
        return [-1]
    first = sound_matrix(a)
    second = sound_matrix(b)
    if first is None or second is None:
        return [-2]
    if first.columns != second.rows or not shape_fits(first.rows, second.columns):
        return [-3]
    return form_answer(product(first, second, sh), most)


def few_sum(most, a, b):
    if max(len(a), len(b)) > MOST_BYTES or outside(most, 0, MOST_BYTES):
        return [-1]
    first = sound_matrix(a)
    second = sound_matrix(b)
    if first is None or second is None:
        return [-2]
    if first.rows != second.rows or first.columns != second.columns:
        return [-3]
    return form_answer(summed(first, second), most)


def few_pick(most, s, row):
    if len(s) > MOST_BYTES or outside(most, 0, MOST_BYTES) or outside(len(row), 1, MOST_ROWS):
        return [-1]
    matrix = sound_matrix(s)
    if matrix is None:
        return [-2]
    if max(row) >= matrix.rows or not shape_fits(len(row), matrix.columns):
        return [-3]
    return form_answer(picked(matrix, row), most)


def few_thin(t, most, s):
    if len(s) > MOST_BYTES or outside(most, 0, MOST_BYTES) or outside(t, 0, MOST_THIN):
        return [-1]
    matrix = sound_matrix(s)
    if matrix is None:
        return [-2]
    return form_answer(thinned(matrix, t), most)


def goon_check(net):
    if len(net) > MOST_NET_BYTES:
        return [-1]
    try:
        found = Net(net)
    except Fault as fault:
        return [-2, fault.place, fault.kind]
    return [0, found.words, found.width, len(found.layers), found.heads, found.inner, found.places]


def whole_matrix(data):
    reader = Reader(data)
    matrix = read_matrix(reader)
    reader.nothing_follows()
    return matrix


def sound_matrix(data):
    try:
        return whole_matrix(data)
    except Fault:
        return None


def form_answer(matrix, most):
    size = form_size(matrix)
    if size > most:
        return [-4]
    return [size] + form_bytes(matrix)


def times_answer(most, data, given, back):
    if len(data) > MOST_BYTES or len(given) > MOST_COLUMNS or outside(most, 0, MOST_COLUMNS):
        return [-1]
    matrix = sound_matrix(data)
    if matrix is None:
        return [-2]
    if back:
        matrix = turned(matrix)
    if len(given) != matrix.columns:
        return [-3]
    if most < matrix.rows:
        return [-4]
    return [matrix.rows] + times(matrix, given)
