import copy
import unittest

from goingon.session import Session

from helper import (ask, ask_net, begin, feed, forget, form, go_on, little, net_bytes, scaled, silent_net, small_net,
                    some_net, tell, with_bytes, write, zeros)


def answer_to(data):
    return ask(begin(data))[0]


class Taken(unittest.TestCase):
    def test_ordinary_nets(self):
        self.assertEqual(answer_to(net_bytes(small_net())), [0])
        for number in range(20):
            self.assertEqual(answer_to(net_bytes(some_net(number))), [0])

    def test_the_least_net(self):
        self.assertEqual(answer_to(net_bytes(silent_net([[0]], places=1))), [0])

    def test_several_blocks_of_columns(self):
        self.assertEqual(answer_to(net_bytes(silent_net([[1] * 70, [0] * 70], inner=2))), [0])
        self.assertEqual(answer_to(net_bytes(silent_net([[1]], inner=200))), [0])

    def test_many_words_places_heads_and_layers(self):
        self.assertEqual(answer_to(net_bytes(silent_net([[0]] * 1000))), [0])
        self.assertEqual(answer_to(net_bytes(silent_net([[0]], places=256))), [0])
        self.assertEqual(answer_to(net_bytes(silent_net([[0] * 8], heads=8))), [0])
        self.assertEqual(answer_to(net_bytes(silent_net([[0]], layers=8))), [0])
        self.assertEqual(answer_to(net_bytes(silent_net([[0]], inner=700))), [0])


class Ranges(unittest.TestCase):
    def check(self, part, offset, size, taken, refused, net=None):
        net = net or small_net()
        for number in taken:
            data = with_bytes(net, part, offset, little(number, size))
            self.assertEqual(answer_to(data), [0], (part, offset, number))
        for number in refused:
            data = with_bytes(net, part, offset, little(number, size))
            self.assertEqual(answer_to(data), [-2], (part, offset, number))

    def test_the_mark(self):
        for offset in range(4):
            for byte in (0, 32, 255):
                self.assertEqual(answer_to(with_bytes(small_net(), "mark", offset, [byte])), [-2])
        self.assertEqual(answer_to(list(b"gon1") + net_bytes(small_net())[4:]), [-2])
        self.assertEqual(answer_to(list(b"GON2") + net_bytes(small_net())[4:]), [-2])

    def test_numbers_at_the_front(self):
        for part in ("words", "width", "inner", "places"):
            self.check(part, 0, 2, [], [0, 65535])
        self.check("words", 0, 2, [], [4097])
        self.check("width", 0, 2, [], [257])
        self.check("inner", 0, 2, [], [1025])
        self.check("heads", 0, 1, [1, 2], [0, 3, 9, 255])
        self.check("layers", 0, 1, [], [0, 9, 255])
        self.check("e0", 0, 1, [0, 7], [8, 255])
        self.check("e1", 0, 1, [0, 7], [8, 255])

    def test_too_much_even_where_all_else_fits(self):
        self.assertEqual(answer_to(net_bytes(silent_net([[0]], places=257))), [-2])
        self.assertEqual(answer_to(net_bytes(silent_net([[0] * 9], heads=9))), [-2])
        self.assertEqual(answer_to(net_bytes(silent_net([[0]], layers=9))), [-2])

    def test_no_layer_even_where_all_else_fits(self):
        self.assertEqual(answer_to(net_bytes(silent_net([[0]], layers=0))), [-2])

    def test_width_is_a_multiple_of_heads(self):
        for heads in range(1, 9):
            fits = 6 % heads == 0
            self.assertEqual(answer_to(net_bytes(silent_net([[0] * 6], heads=heads))), [0] if fits else [-2])

    def test_the_falling_table(self):
        for table, answer in (([1] + [0] * 255, [0]), ([0] * 256, [-2]), ([65535] * 256, [0]), ([1] * 256, [0]),
                              ([5] * 255 + [6], [-2]), ([5, 6] + [5] * 254, [-2]),
                              ([9] * 100 + [3] + [4] * 155, [-2]), ([300] * 100 + [256] + [0] * 155, [0])):
            net = small_net()
            net["falling"] = table
            self.assertEqual(answer_to(net_bytes(net)), answer)

    def test_the_bend_and_gains_have_no_bounds(self):
        for edge in (0, 1, 127, 128, 255):
            self.check("bend", 7, 1, [edge], [])
        for part in ("layer 0 first gains", "layer 1 second gains", "last gains"):
            self.check(part, 2, 2, [0, 32767, -32768], [])

    def test_scales(self):
        for layer in ("layer 0", "layer 1"):
            for part in ("query", "key", "value", "out", "up", "down"):
                for row in (0, 1):
                    name = f"{layer} {part}"
                    self.check(name, 9 * row, 4, [2 ** 30, -2 ** 30], [2 ** 30 + 1, -2 ** 30 - 1, -2 ** 31])
                    self.check(name, 9 * row + 4, 4, [1, 2 ** 31 - 1], [0, 2 ** 31, 2 ** 32 - 1])
                    self.check(name, 9 * row + 8, 1, [1, 62], [0, 63, 255])

    def test_each_c(self):
        for part in ("layer 0 c", "layer 1 c", "last c"):
            self.check(part, 0, 1, [0, 24], [25, 255])

    def test_leanings(self):
        for word in range(3):
            self.check("leaning", 4 * word, 4, [2 ** 24, -2 ** 24], [2 ** 24 + 1, -2 ** 24 - 1, 2 ** 31 - 1, -2 ** 31])


class OtherFaults(unittest.TestCase):
    def test_wherever_the_bytes_end(self):
        data = net_bytes(small_net())
        self.assertEqual(answer_to(data), [0])
        for end in range(len(data)):
            self.assertEqual(answer_to(data[:end]), [-2], end)

    def test_bytes_left_over(self):
        for more in ([0], [1], [0] * 50, net_bytes(small_net())):
            self.assertEqual(answer_to(net_bytes(small_net()) + more), [-2])

    def check_form(self, net, part, offset, matrix):
        data = form(matrix)
        behind_row = 12 + sum(1 for number in matrix[0] if number)
        wrong_rows = [0, 0] + data[2:]
        wrong_columns = data[:2] + [0, 0] + data[4:]
        zero = data[:12] + [0] + data[13:]
        one_more = data[:11] + [128] + data[12:behind_row] + [1] + data[behind_row:]
        self.assertNotEqual(data[12], 0)
        for broken in (wrong_rows, wrong_columns, zero, one_more):
            self.assertEqual(answer_to(with_bytes(net, part, offset, broken, len(data))), [-2], (part, broken))

    def test_faults_of_every_form(self):
        net = small_net()
        wide = [[7] * 2] * 2
        net["place"] = [[1, 2]] * 3
        for layer in net["layer"]:
            for part in ("query", "key", "value", "out"):
                layer[part] = scaled(wide)
            layer["up"] = scaled([[1, 2]] * 3)
            layer["down"] = scaled([[1, 2, 3]] * 2)
        self.assertEqual(answer_to(net_bytes(net)), [0])
        self.check_form(net, "word matrix", 0, net["word"])
        self.check_form(net, "place matrix", 0, net["place"])
        for number, layer in enumerate(net["layer"]):
            for part in ("query", "key", "value", "out", "up", "down"):
                matrix = layer[part]["matrix"]
                self.check_form(net, f"layer {number} {part}", 9 * len(matrix), matrix)

    def test_matrices_of_other_rows_and_columns(self):
        net = small_net()
        self.assertEqual(answer_to(net_bytes(net)), [0])
        for rows, columns in ((2, 2), (4, 2), (3, 1), (3, 3), (2, 3)):
            for part in ("word", "place"):
                other = copy.deepcopy(net)
                other[part] = zeros(rows, columns)
                self.assertEqual(answer_to(net_bytes(other)), [-2], (part, rows, columns))

    def test_scaled_matrices_of_other_rows_and_columns(self):
        net = small_net()
        shapes = {"query": (2, 2), "key": (2, 2), "value": (2, 2), "out": (2, 2), "up": (3, 2), "down": (2, 3)}
        for number in (0, 1):
            for part, (rows, columns) in shapes.items():
                for more_rows, more_columns in ((1, 0), (-1, 0), (0, 1), (0, -1), (1, -1), (-1, 1)):
                    other = copy.deepcopy(net)
                    other["layer"][number][part]["matrix"] = zeros(rows + more_rows, columns + more_columns)
                    self.assertEqual(answer_to(net_bytes(other)), [-2], (number, part, more_rows, more_columns))

    def test_more_than_16777216_bytes(self):
        # Handed straight to the session: as a list of calls it would be copied more than once.
        self.assertEqual(Session().begin([0] * 16777216), [-2])
        self.assertEqual(Session().begin([0] * 16777217), [-1])

    def test_nothing_at_all(self):
        self.assertEqual(answer_to([]), [-2])


class WhatWasThere(unittest.TestCase):
    def test_a_refused_one_leaves_the_net_and_what_was_fed(self):
        net = some_net(4)
        good = net_bytes(net)
        probe = [tell(), go_on(3, 2 ** 63), feed(0), tell(), forget(1), tell()]
        alone = ask_net(net, feed(0, 0), *probe)
        for bad in ([], good[:-1], good + [0], good[:500], list(b"GON2") + good[4:]):
            parts = ask_net(net, feed(0, 0), begin(bad), *probe)
            self.assertEqual(parts[1], [-2])
            self.assertEqual(parts[:1] + parts[2:], alone)

    def test_one_refused_behind_a_first_that_was_refused(self):
        good = net_bytes(some_net(4))
        parts = ask(begin(good[:-1]), begin([]), begin(good), begin(good[:-1]), feed(0))
        self.assertEqual(parts, [[-2], [-2], [0], [-2], [1, 0]])

    def test_a_new_one_starts_with_nothing_fed(self):
        data = net_bytes(small_net())
        parts = ask(begin(data), feed(1, 2), begin(data), tell(), go_on(1, 0), write(1, 0, 1), forget(1), feed(2))
        self.assertEqual(parts[2:], [[0], [-5], [-5], [-5], [-1], [1, 0]])

    def test_the_last_one_counts(self):
        first, second = some_net(4), some_net(6)
        calls = [feed(0), tell(), write(3, 12345, 4), tell()]
        parts = ask(begin(net_bytes(first)), feed(0), begin(net_bytes(second)), *calls)
        self.assertEqual(parts[3:], ask_net(second, *calls))
        self.assertNotEqual(parts[3:], ask_net(first, *calls))


if __name__ == "__main__":
    unittest.main()
