"""How numbers are rounded, held and summed."""

BYTE_TOP = 127
WORD_TOP = 32767


def outside(number, low, high):
    return number < low or number > high


def near(a, b):
    return (2 * a + b) // (2 * b)


# top is BYTE_TOP or WORD_TOP: below 0 there is one number more.
def held(number, top):
    return max(-top - 1, min(top, number))


def root(square):
    found = 1 << ((square.bit_length() + 1) // 2)
    # Newton's steps from above never fall below the root, so the first that fits is it.
    while found * found > square:
        found = (found + square // found) // 2
    return found


def line_sum(line, given):
    return sum([number * given[column] for column, number in line])
