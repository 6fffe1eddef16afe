"""Matrices as lists of rows, nets as plain dicts, their bytes, the calls, and the document's words told once more,
slowly and plainly."""

import copy
import random
from fractions import Fraction
from math import floor, isqrt

from goingon.net import answers

TOP_SEED = 2 ** 64 - 1


# Bytes.

def little(number, size):
    return list((number % 256 ** size).to_bytes(size, "little"))


def header(rows, columns):
    return little(rows, 2) + little(columns, 2)


def mask(*bits):
    return little(sum(1 << bit for bit in bits), 8)


def form(matrix):
    data = little(len(matrix), 2) + little(len(matrix[0]), 2)
    for row in matrix:
        for first in range(0, len(row), 64):
            block = row[first:first + 64]
            data += little(sum(1 << j for j, number in enumerate(block) if number), 8)
            data += [number % 256 for number in block if number]
    return data


def form_answer(matrix):
    """What is answered where this matrix comes out."""
    data = form(matrix)
    return [len(data)] + data


def broken_forms():
    """Of each kind of a form's fault some bytes that have it."""
    good = form([[1, 2], [0, 3]])
    ended = [good[:end] for end in range(len(good))]
    out_of_range = [header(0, 2) + mask(), header(4097, 1), header(1, 0), header(1, 4097), header(1024, 1025)]
    zeros_written = [header(1, 2) + mask(0, 1) + [5, 0], header(2, 1) + mask(0) + [0] + mask()]
    masks_too_wide = [header(1, 2) + mask(2) + [1], header(1, 66) + mask(63) + [1] + mask(0, 2) + [1, 1]]
    left_over = [good + [0], good + good]
    return ended + out_of_range + zeros_written + masks_too_wide + left_over


def scaled_bytes(scaled):
    data = []
    for added, multiplied, shift in scaled["scales"]:
        data += little(added, 4) + little(multiplied, 4) + little(shift, 1)
    return data + form(scaled["matrix"])


def gains_bytes(gains):
    return [byte for gain in gains for byte in little(gain, 2)]


def layer_parts(layer, name):
    yield name + " first gains", gains_bytes(layer["first"])
    for part in ("query", "key", "value"):
        yield name + " " + part, scaled_bytes(layer[part])
    yield name + " c", little(layer["c"], 1)
    yield name + " out", scaled_bytes(layer["out"])
    yield name + " second gains", gains_bytes(layer["second"])
    yield name + " up", scaled_bytes(layer["up"])
    yield name + " down", scaled_bytes(layer["down"])


def net_parts(net):
    yield "mark", list(b"GON1")
    for name, size in (("words", 2), ("width", 2), ("heads", 1), ("layers", 1), ("inner", 2), ("places", 2),
                       ("e0", 1), ("e1", 1)):
        yield name, little(net[name], size)
    yield "falling", [byte for number in net["falling"] for byte in little(number, 2)]
    yield "bend", [number % 256 for number in net["bend"]]
    yield "word matrix", form(net["word"])
    yield "place matrix", form(net["place"])
    for number, layer in enumerate(net["layer"]):
        yield from layer_parts(layer, f"layer {number}")
    yield "last gains", gains_bytes(net["last"])
    yield "leaning", [byte for number in net["leaning"] for byte in little(number, 4)]
    yield "last c", little(net["c"], 1)


def net_bytes(net):
    return [byte for name, part in net_parts(net) for byte in part]


def part_place(net, wanted):
    place = 0
    for name, part in net_parts(net):
        if name == wanted:
            return place
        place += len(part)
    raise KeyError(wanted)


def with_bytes(net, part, offset, data, size=None):
    """The net's bytes, others in the place of those (as many, or size) from an offset of a part on."""
    whole = net_bytes(net)
    place = part_place(net, part) + offset
    return whole[:place] + data + whole[place + (len(data) if size is None else size):]


# What is handed in.

class Unchangeable(list):
    """A list that tells on whoever changes it, for a while too."""

    def refuse(self, *given, **named):
        raise AssertionError("what is handed in is changed")

    __setitem__ = __delitem__ = __iadd__ = __imul__ = refuse
    append = clear = extend = insert = pop = remove = reverse = sort = refuse


def sealed(given):
    return [Unchangeable(one) if isinstance(one, list) else one for one in given]


def check_call(case, call, given, expected):
    """The call answers this, twice, with whole numbers in a new list, and changes nothing of what is handed in."""
    before = copy.deepcopy(given)
    first = call(*given)
    case.assertEqual(first, expected)
    case.assertEqual(given, before)
    case.assertIs(type(first), list)
    case.assertLessEqual({type(number) for number in first}, {int})
    first.append(0)
    case.assertEqual(call(*sealed(given)), expected)


def check_most(case, call, needed, expected, highest=2097152):
    """call takes most alone; needed is the least most by which expected is answered."""
    for most in sorted({needed, needed + 1, highest}):
        case.assertEqual(call(most), expected, most)
    for most in sorted({0, 1, needed // 2, needed - 1}):
        if most < needed:
            case.assertEqual(call(most), [-4], most)
    for most in (-1, -2147483648, highest + 1, 2147483647):
        case.assertEqual(call(most), [-1], most)


# Nets.

def zeros(rows, columns):
    return [[0] * columns for row in range(rows)]


def one_to_one(size, number=1):
    return [[number if i == j else 0 for j in range(size)] for i in range(size)]


def scaled(matrix, added=0, multiplied=2, shift=1):
    """By its defaults what comes out is just the sum."""
    if isinstance(added, int):
        added = [added] * len(matrix)
    return {"scales": [(number, multiplied, shift) for number in added], "matrix": matrix}


def silent_layer(width, inner):
    """Nothing of it is added to r."""
    layer = {"first": [64] * width, "c": 0, "second": [64] * width}
    for part in ("query", "key", "value", "out"):
        layer[part] = scaled(zeros(width, width))
    layer["up"] = scaled(zeros(inner, width))
    layer["down"] = scaled(zeros(width, inner))
    return layer


def silent_net(word, places=4, heads=1, layers=1, inner=1, last=None, leaning=None):
    """A net whose r, behind the last layer, is still the word's row."""
    width = len(word[0])
    return {
        "words": len(word), "width": width, "heads": heads, "layers": layers, "inner": inner, "places": places,
        "e0": 0, "e1": 0, "falling": list(range(256, 0, -1)), "bend": list(range(-128, 128)),
        "word": word, "place": zeros(places, width),
        "layer": [silent_layer(width, inner) for layer in range(layers)],
        "last": last or [64] * width, "leaning": leaning or [0] * len(word), "c": 0,
    }


def small_net():
    return silent_net([[1, 0], [0, -2], [3, 4]], places=3, heads=2, layers=2, inner=3, leaning=[1, 2, 3])


def some_matrix(source, rows, columns, share):
    return [[source.randint(-128, 127) if source.random() < share else 0 for j in range(columns)]
            for i in range(rows)]


def some_scaled(source, rows, columns):
    matrix = some_matrix(source, rows, columns, source.choice((0.2, 0.6, 1)))
    reach = 128 * 64 * columns
    scales = []
    for row in range(rows):
        shift = source.choice((1, 2, 8, 12, 31, 40, 62))
        gain = Fraction(source.choice((1, 40, 300, 4000)), reach)
        multiplied = min(2 ** 31 - 1, max(1, int(gain * 2 ** shift)))
        added = source.choice((0, 1, -1, source.randint(-reach, reach), source.randint(-2 ** 30, 2 ** 30)))
        scales.append((added if source.random() < 0.8 else 0, multiplied, shift))
    return {"scales": scales, "matrix": matrix}


def some_gains(source, width):
    return [source.randint(-8128, 8128) if source.random() < 0.9 else source.choice((-32768, 32767, 0))
            for j in range(width)]


def some_layer(source, width, inner):
    layer = {"first": some_gains(source, width), "c": source.randint(0, 10), "second": some_gains(source, width)}
    for part in ("query", "key", "value", "out"):
        layer[part] = some_scaled(source, width, width)
    layer["up"] = some_scaled(source, inner, width)
    layer["down"] = some_scaled(source, width, inner)
    return layer


def some_net(number):
    source = random.Random(number)
    heads = source.randint(1, 4)
    width = heads * source.randint(1, 3)
    words, inner, places, layers = (source.randint(1, most) for most in (9, 7, 8, 3))
    falling = sorted([source.choice((0, source.randint(1, 99), source.randint(1, 65535))) for k in range(255)])
    falling.append(source.randint(falling[-1] or 1, 65535))
    falling.reverse()
    return {
        "words": words, "width": width, "heads": heads, "layers": layers, "inner": inner, "places": places,
        "e0": source.randint(0, 7), "e1": source.randint(0, 7), "falling": falling,
        "bend": [source.randint(-128, 127) for k in range(256)],
        "word": some_matrix(source, words, width, 0.7), "place": some_matrix(source, places, width, 0.5),
        "layer": [some_layer(source, width, inner) for layer in range(layers)],
        "last": some_gains(source, width),
        "leaning": [source.choice((0, source.randint(-500, 500))) for word in range(words)],
        "c": source.randint(0, 8),
    }


# Calls.

def begin(data):
    return [11, len(data)] + data


def feed(*words):
    return [12, len(words)] + list(words)


def forget(k):
    return [13, k]


def tell():
    return [14]


def go_on(most, seed):
    return [15, most, seed]


def write(most, seed, k):
    return [16, most, seed, k]


def parted(answered):
    parts = []
    at = 0
    while at < len(answered):
        parts.append(answered[at + 1:at + 1 + answered[at]])
        assert len(parts[-1]) == answered[at]
        at += 1 + answered[at]
    return parts


def ask(*calls):
    """What is answered to each call."""
    line = [number for call in calls for number in call]
    assert len(line) <= 16000 and len(calls) <= 200, "no such line is ever handed in"
    return parted(answers(line))


def ask_net(net, *calls):
    """What is answered behind the net's goon_begin."""
    parts = ask(begin(net_bytes(net)), *calls)
    assert parts[0] == [0], parts[0]
    return parts[1:]


# The document's third part, word by word, all anew each time.

def near(a, b):
    return floor(Fraction(a, b) + Fraction(1, 2))


def to_byte(number):
    return -128 if number < -128 else 127 if number > 127 else number


def to_word(number):
    return -32768 if number < -32768 else 32767 if number > 32767 else number


def levelled(r, gains):
    q = isqrt(floor(Fraction(sum(number ** 2 for number in r), len(r))))
    return [to_byte(near(r[j] * gains[j], 64 * (q + 1))) for j in range(len(r))]


def through(part, given, hold):
    passed = []
    for (added, multiplied, shift), row in zip(part["scales"], part["matrix"]):
        t = added + sum(row[j] * given[j] for j in range(len(row)))
        passed.append(hold(floor(Fraction(t * multiplied + 2 ** (shift - 1), 2 ** shift))))
    return passed


def falling_weights(net, c, numbers):
    return [net["falling"][min(255, floor(Fraction(max(numbers) - a, 2 ** c)))] for a in numbers]


def heads_numbers(net, layer, query, keys, values):
    d = net["width"] // net["heads"]
    numbers = []
    for h in range(net["heads"]):
        own = range(h * d, h * d + d)
        weights = falling_weights(net, layer["c"], [sum(query[j] * key[j] for j in own) for key in keys])
        for j in own:
            numbers.append(near(sum(weight * value[j] for weight, value in zip(weights, values)), sum(weights)))
    return numbers


def plain_scores(net, fed):
    keys = [[] for layer in net["layer"]]
    values = [[] for layer in net["layer"]]
    for p, word in enumerate(fed):
        r = [to_word(2 ** net["e0"] * a + 2 ** net["e1"] * b) for a, b in zip(net["word"][word], net["place"][p])]
        for number, layer in enumerate(net["layer"]):
            level = levelled(r, layer["first"])
            keys[number].append(through(layer["key"], level, to_byte))
            values[number].append(through(layer["value"], level, to_byte))
            query = through(layer["query"], level, to_byte)
            seen = heads_numbers(net, layer, query, keys[number], values[number])
            r = [to_word(a + b) for a, b in zip(r, through(layer["out"], seen, to_word))]
            risen = through(layer["up"], levelled(r, layer["second"]), to_byte)
            bent = [net["bend"][u + 128] for u in risen]
            r = [to_word(a + b) for a, b in zip(r, through(layer["down"], bent, to_word))]
    level = levelled(r, net["last"])
    return [leaning + sum(a * b for a, b in zip(row, level)) for leaning, row in zip(net["leaning"], net["word"])]


def plain_next(net, scores, most, seed):
    order = sorted(range(net["words"]), key=lambda word: (-scores[word], word))
    all_weights = falling_weights(net, net["c"], scores)
    weights = [all_weights[word] if word in order[:most] else 0 for word in range(net["words"])]
    u = Fraction(seed * sum(weights), 2 ** 64)
    return min(word for word in range(net["words"]) if sum(weights[:word + 1]) > u)


class Plain:
    """The calls behind a goon_begin that answered 0."""

    def __init__(self, net):
        self.net = net
        self.fed = []

    def scores(self):
        return plain_scores(self.net, self.fed)

    def feed(self, *words):
        if any(word >= self.net["words"] for word in words):
            return [-3]
        if len(self.fed) + len(words) > self.net["places"]:
            return [-4]
        cost = 0
        for word in words:
            if self.fed:
                scores = self.scores()
                cost += max(scores) - scores[word]
            self.fed.append(word)
        return [len(self.fed), cost]

    def forget(self, k):
        if not 0 <= k <= len(self.fed):
            return [-1]
        self.fed = self.fed[:k]
        return [k]

    def tell(self):
        return [self.net["words"]] + self.scores() if self.fed else [-5]

    def go_on(self, most, seed):
        if most < 1:
            return [-1]
        return [plain_next(self.net, self.scores(), most, seed)] if self.fed else [-5]

    def write(self, most, seed, k):
        if most < 1 or not 0 <= k <= 256:
            return [-1]
        if not self.fed:
            return [-5]
        written = []
        for time in range(k):
            if len(self.fed) == self.net["places"]:
                break
            written.append(plain_next(self.net, self.scores(), most, seed))
            self.fed.append(written[-1])
            seed = (6364136223846793005 * seed + 1442695040888963407) % 2 ** 64
            if written[-1] == 0:
                break
        return [len(written)] + written
