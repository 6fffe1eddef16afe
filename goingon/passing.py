"""How a word goes through a net."""

from goingon.falling import weigh
from goingon.whole import BYTE_TOP, WORD_TOP, held, line_sum, near, root


# Keys and values of one layer, column by column: a sum over all words is then one walk.
class Kept:
    def __init__(self, width):
        self.key_columns = [[] for column in range(width)]
        self.value_columns = [[] for column in range(width)]

    def keep(self, key, value):
        for column, number in zip(self.key_columns, key):
            column.append(number)
        for column, number in zip(self.value_columns, value):
            column.append(number)

    def keep_only(self, words):
        self.key_columns = [column[:words] for column in self.key_columns]
        self.value_columns = [column[:words] for column in self.value_columns]


def levelled(r, gains):
    q = root(sum([number * number for number in r]) // len(r))
    return [held(near(number * gain, 64 * (q + 1)), BYTE_TOP) for number, gain in zip(r, gains)]


def through(scaled, given, top):
    passed = []
    for added, multiplied, shift, line in scaled:
        t = added + line_sum(line, given)
        passed.append(held((t * multiplied + (1 << (shift - 1))) >> shift, top))
    return passed


def joined(r, more):
    return [held(a + b, WORD_TOP) for a, b in zip(r, more)]


def enter(net, word, place):
    r = [0] * net.width
    for column, number in net.word_lines[word]:
        r[column] += number << net.word_power
    for column, number in net.place_lines[place]:
        r[column] += number << net.place_power
    return [held(number, WORD_TOP) for number in r]


def products(query, key_columns):
    sums = [0] * len(key_columns[0])
    for factor, column in zip(query, key_columns):
        sums = [so_far + factor * number for so_far, number in zip(sums, column)]
    return sums


def weighted_sum(weights, column):
    return sum([weight * number for weight, number in zip(weights, column)])


def mixed(weights, value_columns):
    total = sum(weights)
    return [near(weighted_sum(weights, column), total) for column in value_columns]


def look_back(net, layer, kept, query):
    size = net.width // net.heads
    seen = []
    for first in range(0, net.width, size):
        end = first + size
        agreed = products(query[first:end], kept.key_columns[first:end])
        weights = weigh(net.falling, layer.fall_shift, agreed)
        seen.extend(mixed(weights, kept.value_columns[first:end]))
    return seen


def pass_heads(net, layer, kept, r):
    level = levelled(r, layer.first_gains)
    query = through(layer.query, level, BYTE_TOP)
    kept.keep(through(layer.key, level, BYTE_TOP), through(layer.value, level, BYTE_TOP))
    return joined(r, through(layer.out, look_back(net, layer, kept, query), WORD_TOP))


def pass_inner(net, layer, r):
    risen = through(layer.up, levelled(r, layer.second_gains), BYTE_TOP)
    bent = [net.bend[number + 128] for number in risen]
    return joined(r, through(layer.down, bent, WORD_TOP))


# What's given back is levelled by the last gains: scores need no more of a word than that.
def pass_word(net, kept_layers, word, place):
    r = enter(net, word, place)
    for layer, kept in zip(net.layers, kept_layers):
        r = pass_heads(net, layer, kept, r)
        r = pass_inner(net, layer, r)
    return levelled(r, net.last_gains)
