"""The product of two matrices.

The numbers of one block of a line stand side by side in one whole number, each in a slot of its own. Such numbers are
multiplied and added as they are, so that a whole block's sums go on at once.
"""

from goingon.form import BLOCK, Matrix
from goingon.matrices import held_line
from goingon.whole import near

# At most 4096 products of two bytes come to at most 2^26, below 0 too: no sum reaches into the next slot.
SLOT_BITS = 28
SLOT_COUNT = 268435456
SLOT_HALF = 134217728


def product(a, b, shift):
    packed_lines = [packed_line(line) for line in b.lines]
    return Matrix(a.rows, b.columns, [product_line(line, packed_lines, shift) for line in a.lines])


def packed_line(line):
    packed = {}
    for column, number in line:
        block = column // BLOCK
        packed[block] = packed.get(block, 0) + (number << (SLOT_BITS * (column % BLOCK)))
    return list(packed.items())


def product_line(line, packed_lines, shift):
    totals = {}
    for row, factor in line:
        for block, packed in packed_lines[row]:
            totals[block] = totals.get(block, 0) + factor * packed
    pairs = []
    for block, total in sorted(totals.items()):
        pairs.extend(slot_pairs(block * BLOCK, total))
    return held_line([(column, near(number, 1 << shift)) for column, number in pairs])


def slot_pairs(column, total):
    pairs = []
    while total:
        # A slot below 0 has borrowed from the next one, which taking it away gives back.
        number = (total + SLOT_HALF) % SLOT_COUNT - SLOT_HALF
        pairs.append((column, number))
        total = (total - number) >> SLOT_BITS
        column += 1
    return pairs
