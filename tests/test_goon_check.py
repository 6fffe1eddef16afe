import copy
import itertools
import unittest

from goingon.few import goon_check

from helper import (ask, begin, check_call, form, little, net_bytes, part_place, scaled, silent_net, small_net,
                    some_net, with_bytes, zeros)

SCALED = ("query", "key", "value", "out", "up", "down")
SMALL = [0, 3, 2, 2, 2, 3, 3]


def full_net():
    """As many rows and columns as small_net has, and nowhere a 0."""
    net = small_net()
    net["word"] = [[1, -2]] * 3
    net["place"] = [[5, 6]] * 3
    for layer in net["layer"]:
        for part in SCALED:
            matrix = layer[part]["matrix"]
            layer[part] = scaled([[7 + j for j in range(len(row))] for row in matrix])
    return net


def told_numbers(net):
    return [0] + [net[name] for name in ("words", "width", "layers", "heads", "inner", "places")]


def forms(net):
    """Each matrix of a net: the part it's in, how far behind the part's beginning its form begins, its rows."""
    yield "word matrix", 0, net["word"]
    yield "place matrix", 0, net["place"]
    for number, layer in enumerate(net["layer"]):
        for part in SCALED:
            matrix = layer[part]["matrix"]
            yield f"layer {number} {part}", 9 * len(matrix), matrix


def with_matrix(net, part, matrix):
    """The net's bytes with another matrix in this part, its scales as they were."""
    other = copy.deepcopy(net)
    words = part.split()
    if words[0] == "layer":
        other["layer"][int(words[1])][words[2]]["matrix"] = matrix
    else:
        other[words[0]] = matrix
    return net_bytes(other)


class Checking(unittest.TestCase):
    def check(self, data, expected):
        """goon_begin agrees on the same bytes: 0 with 0, -2 with -2."""
        self.assertEqual(goon_check(data), expected)
        if len(data) <= 15900:
            self.assertEqual(ask(begin(data)), [expected[:1]])


class TheNumbers(Checking):
    def test_in_their_order(self):
        net = silent_net(zeros(7, 6), places=5, heads=3, layers=2, inner=4)
        self.check(net_bytes(net), [0, 7, 6, 2, 3, 4, 5])
        self.check(net_bytes(small_net()), SMALL)
        self.check(net_bytes(full_net()), SMALL)

    def test_the_least_net(self):
        self.check(net_bytes(silent_net([[0]], places=1)), [0, 1, 1, 1, 1, 1, 1])

    def test_layers_and_heads(self):
        for layers in (1, 2, 8):
            for heads in (1, 2, 4, 8):
                net = silent_net(zeros(2, 8), heads=heads, layers=layers)
                self.check(net_bytes(net), [0, 2, 8, layers, heads, 1, 4])

    def test_many(self):
        for number in range(40):
            net = some_net(number)
            self.check(net_bytes(net), told_numbers(net))

    def test_numbers_at_their_tops(self):
        self.check(net_bytes(silent_net([[1]] * 4096)), [0, 4096, 1, 1, 1, 1, 4])
        self.check(net_bytes(silent_net([[1] * 256], heads=8)), [0, 1, 256, 1, 8, 1, 4])
        self.check(net_bytes(silent_net([[1]], inner=1024)), [0, 1, 1, 1, 1, 1024, 4])
        self.check(net_bytes(silent_net([[1]], places=256)), [0, 1, 1, 1, 1, 1, 256])

    def test_one_more_than_their_tops(self):
        self.check(net_bytes(silent_net([[1]] * 4097)), [-2, 4, 2])
        self.check(net_bytes(silent_net([[1] * 257])), [-2, 6, 2])
        self.check(net_bytes(silent_net([[1] * 9], heads=9)), [-2, 8, 2])
        self.check(net_bytes(silent_net([[1]], layers=9)), [-2, 9, 2])
        self.check(net_bytes(silent_net([[1]], inner=1025)), [-2, 10, 2])
        self.check(net_bytes(silent_net([[1]], places=257)), [-2, 12, 2])

    def test_several_blocks_of_columns(self):
        self.check(net_bytes(silent_net([[1] * 130], inner=70)), [0, 1, 130, 1, 1, 70, 4])


class OutOfRange(Checking):
    def check_number(self, part, offset, size, taken, refused, place=None):
        """place, if it's told, is the part's own, counted by hand."""
        net = full_net()
        begins = part_place(net, part) + offset
        if place is not None:
            self.assertEqual(begins, place + offset)
        for number in taken:
            self.check(with_bytes(net, part, offset, little(number, size)), SMALL)
        for number in refused:
            self.check(with_bytes(net, part, offset, little(number, size)), [-2, begins, 2])

    def test_the_mark(self):
        for offset in range(4):
            for byte in (0, 32, 71, 255):
                if list(b"GON1")[offset] != byte:
                    self.check(with_bytes(small_net(), "mark", offset, [byte]), [-2, 0, 2])
        self.check(list(b"gon1") + net_bytes(small_net())[4:], [-2, 0, 2])

    def test_the_mark_cut_off(self):
        for end in range(4):
            self.check(list(b"GON1")[:end], [-2, end, 1])
        self.check(list(b"GON1"), [-2, 4, 1])
        self.check(list(b"GON2"), [-2, 0, 2])

    def test_the_numbers_ahead(self):
        self.check_number("words", 0, 2, [3], [0, 4097, 65535], 4)
        self.check_number("width", 0, 2, [2], [0, 257, 65535], 6)
        self.check_number("heads", 0, 1, [2], [0, 9, 255], 8)
        self.check_number("layers", 0, 1, [2], [0, 9, 255], 9)
        self.check_number("inner", 0, 2, [3], [0, 1025, 65535], 10)
        self.check_number("places", 0, 2, [3], [0, 257, 65535], 12)
        self.check_number("e0", 0, 1, [0, 7], [8, 255], 14)
        self.check_number("e1", 0, 1, [0, 7], [8, 255], 15)

    def test_heads_that_do_not_divide_width(self):
        self.check_number("heads", 0, 1, [], [3, 4, 5, 6, 7, 8])
        for width in (1, 5, 6, 7, 12):
            for heads in range(1, 9):
                net = silent_net([[0] * width], heads=heads)
                self.check(net_bytes(net), told_numbers(net) if width % heads == 0 else [-2, 8, 2])

    def test_the_falling_table(self):
        falls = list(range(300, 44, -1))
        for place, number in ((0, 0), (1, 301), (1, 65535), (2, 300), (100, 202), (254, 48), (255, 47), (255, 65535)):
            net = small_net()
            net["falling"] = list(falls)
            self.check(net_bytes(net), SMALL)
            net["falling"][place] = number
            self.check(net_bytes(net), [-2, 16 + 2 * place, 2])

    def test_a_falling_table_that_does_not_rise(self):
        for table in ([1] + [0] * 255, [65535] * 256, [5] * 128 + [4] * 128, [256] * 255 + [0]):
            net = small_net()
            net["falling"] = table
            self.check(net_bytes(net), SMALL)

    def test_one_that_rises_twice(self):
        net = small_net()
        net["falling"] = [9, 8, 9] + [8] * 252 + [9]
        self.check(net_bytes(net), [-2, 16 + 4, 2])

    def test_the_bend_and_gains_have_no_bounds(self):
        for number in (0, 127, 128, 255):
            self.check_number("bend", 0, 1, [number], [], 528)
            self.check_number("bend", 255, 1, [number], [])
        for part in ("layer 0 first gains", "layer 0 second gains", "layer 1 first gains", "last gains"):
            self.check_number(part, 2, 2, [-32768, 32767, 0], [])

    def test_scales(self):
        for layer in (0, 1):
            for part in SCALED:
                name = f"layer {layer} {part}"
                rows = 3 if part == "up" else 2
                for row in range(rows):
                    self.check_number(name, 9 * row, 4, [2 ** 30, -2 ** 30], [2 ** 30 + 1, -2 ** 30 - 1, 2 ** 31])
                    self.check_number(name, 9 * row + 4, 4, [1, 2 ** 31 - 1], [0, 2 ** 31, 2 ** 32 - 1])
                    self.check_number(name, 9 * row + 8, 1, [1, 62], [0, 63, 255])

    def test_each_c(self):
        for part in ("layer 0 c", "layer 1 c", "last c"):
            self.check_number(part, 0, 1, [0, 24], [25, 255])

    def test_leanings(self):
        for word in range(3):
            self.check_number("leaning", 4 * word, 4, [2 ** 24, -2 ** 24], [2 ** 24 + 1, -2 ** 24 - 1, 2 ** 31])


class Matrices(Checking):
    def test_where_they_are(self):
        # 2 gains, then 2 rows' scales: so far is the first layer's query from the layer's beginning.
        places = [part_place(full_net(), part) + offset for part, offset, matrix in forms(full_net())]
        self.assertEqual(places[:3], [784, 784 + 34, 784 + 68 + 4 + 18])
        self.assertEqual(len(places), 14)

    def test_rows_and_columns_out_of_range(self):
        for part, offset, matrix in forms(full_net()):
            place = part_place(full_net(), part) + offset
            for number in (0, 4097, 65535):
                rows = with_bytes(full_net(), part, offset, little(number, 2))
                columns = with_bytes(full_net(), part, offset + 2, little(number, 2))
                self.check(rows, [-2, place, 2])
                self.check(columns, [-2, place + 2, 2])
            for rows, columns in ((4096, 257), (257, 4096)):
                both = with_bytes(full_net(), part, offset, little(rows, 2) + little(columns, 2))
                self.check(both, [-2, place + 2, 2])

    def test_a_zero_written_down(self):
        for part, offset, matrix in forms(full_net()):
            place = part_place(full_net(), part) + offset
            wide = len(matrix[0])
            for row in range(len(matrix)):
                for column in range(wide):
                    behind = 4 + row * (8 + wide) + 8 + column
                    self.check(with_bytes(full_net(), part, offset + behind, [0]), [-2, place + behind, 3])

    def test_a_mask_with_a_bit_too_many(self):
        for part, offset, matrix in forms(full_net()):
            place = part_place(full_net(), part) + offset
            wide = len(matrix[0])
            for row in range(len(matrix)):
                behind = 4 + row * (8 + wide)
                for bit in (wide, 63):
                    broken = little((1 << wide) - 1 + (1 << bit), 8)
                    self.check(with_bytes(full_net(), part, offset + behind, broken), [-2, place + behind, 4])

    def test_the_bytes_end_within_each(self):
        data = net_bytes(full_net())
        for part, offset, matrix in forms(full_net()):
            place = part_place(full_net(), part) + offset
            for end in range(place, place + len(form(matrix))):
                self.check(data[:end], [-2, end, 1])

    def test_not_the_rows_or_columns_told(self):
        for part, offset, matrix in forms(full_net()):
            place = part_place(full_net(), part) + offset
            rows, columns = len(matrix), len(matrix[0])
            for other_rows, other_columns in ((rows + 1, columns), (rows - 1, columns), (rows, columns + 1),
                                              (rows, columns - 1), (rows + 1, columns - 1), (rows, 65), (65, columns)):
                for number in (0, -3):
                    data = with_matrix(full_net(), part, [[number] * other_columns] * other_rows)
                    self.check(data, [-2, place, 6])

    def test_rows_and_columns_changed_about(self):
        for part, shape in (("word matrix", (2, 3)), ("layer 0 up", (2, 3)), ("layer 1 down", (3, 2))):
            offset = {found: behind for found, behind, matrix in forms(full_net())}[part]
            data = with_matrix(full_net(), part, zeros(*shape))
            self.check(data, [-2, part_place(full_net(), part) + offset, 6])

    def test_a_fault_within_one_that_is_not_as_told_goes_first(self):
        for part, offset, matrix in forms(full_net()):
            place = part_place(full_net(), part) + offset
            rows, columns = len(matrix) + 1, len(matrix[0])
            data = with_matrix(full_net(), part, [[9] * columns] * rows)
            last = place + 4 + rows * (8 + columns) - 1
            self.assertEqual(data[last], 9)
            self.check(data[:last] + [0] + data[last + 1:], [-2, last, 3])
            for end in range(place + 4, last + 1):
                self.check(data[:end], [-2, end, 1])
            self.check(data[:last + 1], [-2, place, 6])


class TheEnd(Checking):
    def test_no_byte_at_all(self):
        self.check([], [-2, 0, 1])

    def test_wherever_the_bytes_end(self):
        data = net_bytes(small_net())
        for end in range(len(data)):
            self.check(data[:end], [-2, end, 1])
        self.check(data, SMALL)

    def test_bytes_left_over(self):
        data = net_bytes(small_net())
        for more in ([0], [255], [0] * 50, data):
            self.check(data + more, [-2, len(data), 5])

    def test_100000_bytes(self):
        data = net_bytes(small_net())
        self.check(data + [0] * (100000 - len(data)), [-2, len(data), 5])
        net = silent_net([[1] * 60] * 1200)
        self.assertLess(90000, len(net_bytes(net)))
        self.check(net_bytes(net), [0, 1200, 60, 1, 1, 1, 4])

    def test_more_than_16777216_bytes(self):
        data = net_bytes(small_net())
        longest = data + [0] * (16777216 - len(data))
        self.assertEqual(goon_check(longest), [-2, len(data), 5])
        longest.append(0)
        self.assertEqual(goon_check(longest), [-1])


class TwoFaults(Checking):
    def faults(self):
        """Faults that leave the net as long as it is, from the front on: place, bytes, kind."""
        net = full_net()
        faults = [(0, [0], 2)]
        for part, offset, wrong in (("words", 0, [0, 0]), ("width", 0, [1, 1]), ("heads", 0, [3]), ("layers", 0, [0]),
                                    ("inner", 0, [0, 0]), ("places", 0, [0, 0]), ("e0", 0, [8]), ("e1", 0, [8]),
                                    ("falling", 0, [0, 0]), ("falling", 200, [255, 255]),
                                    ("layer 0 query", 4, [0] * 4), ("layer 0 c", 0, [25]), ("layer 1 up", 8, [63]),
                                    ("leaning", 4, little(2 ** 25, 4)), ("last c", 0, [25])):
            faults.append((part_place(net, part) + offset, wrong, 2))
        for part, offset, matrix in forms(net):
            place = part_place(net, part) + offset
            faults += [(place, [0, 0], 2), (place + 4, [255] * 8, 4), (place + 12, [0], 3)]
        return sorted(faults)

    def test_the_first_from_the_front(self):
        data = net_bytes(full_net())
        for (place, wrong, kind), (behind, more, other) in itertools.combinations(self.faults(), 2):
            broken = list(data)
            broken[place:place + len(wrong)] = wrong
            broken[behind:behind + len(more)] = more
            self.assertLess(place, behind)
            self.assertEqual(goon_check(broken), [-2, place, kind])

    def test_ahead_of_the_end_and_of_bytes_left_over(self):
        data = net_bytes(full_net())
        for place, wrong, kind in self.faults():
            broken = list(data)
            broken[place:place + len(wrong)] = wrong
            self.check(broken, [-2, place, kind])
            self.check(broken + [7], [-2, place, kind])
            if place > 0:
                self.check(broken[:place + len(wrong)], [-2, place, kind])
                self.check(broken[:place], [-2, place, 1])

    def test_two_matrices_that_are_not_as_told(self):
        net = full_net()
        net["place"] = zeros(4, 2)
        net["layer"][1]["up"]["matrix"] = zeros(3, 1)
        self.check(net_bytes(net), [-2, part_place(net, "place matrix"), 6])
        net["place"] = zeros(3, 2)
        self.check(net_bytes(net), [-2, part_place(net, "layer 1 up") + 27, 6])
        net["layer"][0]["c"] = 25
        self.check(net_bytes(net), [-2, part_place(net, "layer 0 c"), 2])


class WhatIsHandedIn(unittest.TestCase):
    def test_unchanged_and_asked_twice(self):
        data = net_bytes(full_net())
        check_call(self, goon_check, [data], SMALL)
        check_call(self, goon_check, [data[:-1]], [-2, len(data) - 1, 1])
        check_call(self, goon_check, [data + [1]], [-2, len(data), 5])
        check_call(self, goon_check, [[]], [-2, 0, 1])


if __name__ == "__main__":
    unittest.main()
