"""Calls that are each by themselves."""

from goingon.form import read_matrix
from goingon.reader import Fault, Reader

MOST_BYTES = 2097152


def few_check(s):
    if len(s) > MOST_BYTES:
        return [-1]
    reader = Reader(s)
    try:
        matrix = read_matrix(reader)
        reader.nothing_follows()
    except Fault as fault:
        return [-2, fault.place, fault.kind]
    return [0, matrix.rows, matrix.columns, sum([len(line) for line in matrix.lines])]
