"""What a net's bytes hold, read in the order in which they stand."""

from goingon.form import read_told_lines
from goingon.reader import Fault, Reader

MOST_NET_BYTES = 16777216
MARK = (71, 79, 78, 49)
TABLE_SIZE = 256
MOST_ADDED = 1073741824
MOST_MULTIPLIED = 2147483647
MOST_LEANING = 16777216
MOST_SHIFT = 62
MOST_FALL_SHIFT = 24


class Net:
    def __init__(self, data):
        reader = Reader(data)
        read_mark(reader)
        self.words = reader.unsigned_within(2, 1, 4096)
        self.width = reader.unsigned_within(2, 1, 256)
        self.heads = read_heads(reader, self.width)
        layers = reader.unsigned_within(1, 1, 8)
        self.inner = reader.unsigned_within(2, 1, 1024)
        self.places = reader.unsigned_within(2, 1, 256)
        self.word_power = reader.unsigned_within(1, 0, 7)
        self.place_power = reader.unsigned_within(1, 0, 7)
        self.falling = read_falling(reader)
        self.bend = [reader.signed(1) for entry in range(TABLE_SIZE)]
        self.word_lines = read_told_lines(reader, self.words, self.width)
        self.place_lines = read_told_lines(reader, self.places, self.width)
        self.layers = [Layer(reader, self.width, self.inner) for layer in range(layers)]
        self.last_gains = read_gains(reader, self.width)
        self.leanings = [reader.signed_within(4, -MOST_LEANING, MOST_LEANING) for word in range(self.words)]
        self.fall_shift = reader.unsigned_within(1, 0, MOST_FALL_SHIFT)
        reader.nothing_follows()


class Layer:
    def __init__(self, reader, width, inner):
        self.first_gains = read_gains(reader, width)
        self.query = read_scaled(reader, width, width)
        self.key = read_scaled(reader, width, width)
        self.value = read_scaled(reader, width, width)
        self.fall_shift = reader.unsigned_within(1, 0, MOST_FALL_SHIFT)
        self.out = read_scaled(reader, width, width)
        self.second_gains = read_gains(reader, width)
        self.up = read_scaled(reader, inner, width)
        self.down = read_scaled(reader, width, inner)


def read_mark(reader):
    found = [reader.unsigned(1) for letter in MARK]
    if found != list(MARK):
        raise Fault(0, 2)


def read_heads(reader, width):
    start = reader.at
    heads = reader.unsigned_within(1, 1, 8)
    if width % heads != 0:
        raise Fault(start, 2)
    return heads


def read_falling(reader):
    falling = [reader.unsigned_within(2, 1, 65535)]
    while len(falling) < TABLE_SIZE:
        falling.append(reader.unsigned_within(2, 0, falling[-1]))
    return falling


def read_gains(reader, width):
    return [reader.signed(2) for column in range(width)]


# Each row comes as (what's added, by how much it's multiplied, the shift, its line).
def read_scaled(reader, rows, columns):
    scales = [read_scale(reader) for row in range(rows)]
    lines = read_told_lines(reader, rows, columns)
    return [(scale[0], scale[1], scale[2], line) for scale, line in zip(scales, lines)]


def read_scale(reader):
    added = reader.signed_within(4, -MOST_ADDED, MOST_ADDED)
    multiplied = reader.unsigned_within(4, 1, MOST_MULTIPLIED)
    return (added, multiplied, reader.unsigned_within(1, 1, MOST_SHIFT))
