"""Part three's numbers at their edges, counted out by hand.

In most of these nets width is 1, word 1's row is 1 and the last gain is 8128: then word 1's score tells r.
"""

import unittest

from helper import ask_net, feed, one_to_one, scaled, silent_net, tell, zeros

TOLD = {0: 0, 1: 64, -1: -63, 2: 85, -2: -85, 3: 95, -3: -95, 4: 102, -4: -102}


def narrow_net(row=0, layers=1, places=4):
    """Word 0 has this row; r goes through unchanged."""
    return silent_net([[row], [1]], places=places, layers=layers, last=[8128])


def add(net, part, number, layer=0):
    """Makes that part add a number, whatever goes through."""
    net["layer"][layer][part] = scaled([[0]], added=number)


def told(net, *words):
    """Word 1's score behind these words."""
    return ask_net(net, feed(*words), tell())[1][2]


def levels(row, gains):
    """What a word's row is levelled to by the last gains."""
    width = len(row)
    net = silent_net([list(row)] + one_to_one(width), last=list(gains))
    return ask_net(net, feed(0), tell())[1][2:]


class Levelled(unittest.TestCase):
    def test_r_as_it_is_told(self):
        for r, score in TOLD.items():
            self.assertEqual(told(narrow_net(r), 0), score)

    def test_a_half_goes_up(self):
        for gain, above, below in ((64, 1, 0), (192, 2, -1), (320, 3, -2), (65, 1, -1), (63, 0, 0), (0, 0, 0),
                                   (-64, 0, 1), (-192, -1, 2)):
            self.assertEqual(levels([1], [gain]), [above])
            self.assertEqual(levels([-1], [gain]), [below])

    def test_held_to_a_byte(self):
        for gain, above, below in ((32767, 127, -128), (-32768, -128, 127), (16256, 127, -127), (16320, 127, -127),
                                   (16384, 127, -128), (16512, 127, -128), (16191, 126, -126), (-16384, -128, 127)):
            self.assertEqual(levels([1], [gain]), [above])
            self.assertEqual(levels([-1], [gain]), [below])

    def test_the_root(self):
        for row, expected in (((0, 0), [0, 0]), ((1, 0), [10, 0]), ((1, 1), [5, 5]), ((2, 1), [10, 5]),
                              ((2, 2), [7, 7]), ((3, 0), [10, 0]), ((3, 2), [10, 7]), ((3, 3), [8, 8]),
                              ((4, 1), [13, 3]), ((-4, 2), [-10, 5]), ((127, -128), [10, -10])):
            self.assertEqual(levels(row, [640, 640]), expected, row)

    def test_the_mean_is_over_width(self):
        self.assertEqual(levels((6, 0, 0), [640] * 3), [15, 0, 0])
        self.assertEqual(levels((6, 0, 0, 0), [640] * 4), [15, 0, 0, 0])
        self.assertEqual(levels((6, 0, 0, 0, 0), [640] * 5), [20, 0, 0, 0, 0])

    def test_each_number_has_its_own_gain(self):
        self.assertEqual(levels((2, 2, 2), [64, -640, 320]), [1, -7, 3])

    def test_the_least_words(self):
        net = silent_net([[-128, -128], [1, 0], [0, 1]], last=[6400, -6400])
        net["e0"] = 7
        net["e1"] = 7
        net["place"] = [[-128, -128]] * 4
        self.assertEqual(ask_net(net, feed(0), tell())[1][2:], [-100, 100])


class AWordComes(unittest.TestCase):
    def test_row_and_place(self):
        net = narrow_net(3)
        net["place"] = [[-1], [0], [-2], [-3]]
        self.assertEqual([told(net, *[0] * times) for times in (1, 2, 3, 4)], [85, 95, 64, 0])

    def test_powers(self):
        for e0, e1, row, place, r in ((0, 1, 3, -1, 1), (1, 0, 1, -1, 1), (1, 2, 1, -1, -2), (7, 7, 1, -1, 0),
                                      (7, 0, 1, -127, 1), (0, 7, -127, 1, 1), (7, 6, 50, -100, 0), (5, 1, -4, 63, -2)):
            net = narrow_net(row)
            net["e0"], net["e1"] = e0, e1
            net["place"][0] = [place]
            self.assertEqual(told(net, 0), TOLD[r], (e0, e1))


class ThroughAScaledMatrix(unittest.TestCase):
    def test_rounded_and_shifted(self):
        top = 2 ** 31 - 1
        for added, multiplied, shift, r in (
                (1, 1, 1, 1), (-1, 1, 1, 0), (-2, 1, 1, -1), (-3, 1, 1, -1), (3, 1, 1, 2),
                (1, 1, 2, 0), (2, 1, 2, 1), (-2, 1, 2, 0), (-3, 1, 2, -1), (-5, 1, 2, -1), (-6, 1, 2, -1),
                (-7, 1, 2, -2), (5, 3, 3, 2), (-5, 3, 3, -2), (4, 3, 3, 2), (-4, 3, 3, -1),
                (2 ** 30, top, 62, 0), (-2 ** 30, top, 62, 0), (2 ** 30, top, 61, 1), (-2 ** 30, top, 61, -1),
                (2 ** 30, top, 60, 2), (-2 ** 30, top, 60, -2), (-1, 1, 62, 0), (-2 ** 30, 1, 31, 0),
                (-2 ** 30 + 1, 3, 31, -1), (2 ** 30, 1, 31, 1)):
            for part in ("out", "down"):
                net = narrow_net()
                net["layer"][0][part] = {"scales": [(added, multiplied, shift)], "matrix": [[0]]}
                self.assertEqual(told(net, 0), TOLD[r], (part, added, multiplied, shift))

    def test_each_row_has_its_own(self):
        net = silent_net([[0, 0, 0]] + one_to_one(3), last=[1280] * 3)
        net["layer"][0]["out"] = {"scales": [(3, 1, 1), (3, 2, 1), (3, 1, 2)], "matrix": zeros(3, 3)}
        self.assertEqual(ask_net(net, feed(0), tell())[1][2:], [13, 20, 7])

    def test_rows_and_columns(self):
        net = silent_net([[0, 0]] + one_to_one(2), last=[1280] * 2, inner=3)
        net["layer"][0]["up"] = scaled(zeros(3, 2), added=[1, 10, 100])
        net["layer"][0]["down"] = scaled([[3, 0, 0], [2, -1, 0]], added=[-1, 9])
        self.assertEqual(ask_net(net, feed(0), tell())[1][2:], [20, 10])


class HeldToAWord(unittest.TestCase):
    def steps(self, row, e0, *added):
        """Word 1's score, where out and down of one layer after another add these."""
        net = narrow_net(row, layers=len(added) // 2)
        net["e0"] = e0
        for number, more in enumerate(added):
            add(net, ("out", "down")[number % 2], more, number // 2)
        return told(net, 0)

    def test_out(self):
        self.assertEqual(self.steps(0, 0, 40000, -32766), 64)
        self.assertEqual(self.steps(0, 0, 32768, -32766), 64)
        self.assertEqual(self.steps(0, 0, 32767, -32766), 64)
        self.assertEqual(self.steps(0, 0, 32766, -32766), 0)
        self.assertEqual(self.steps(0, 0, -40000, 32767), -63)
        self.assertEqual(self.steps(0, 0, -32769, 32767), -63)
        self.assertEqual(self.steps(0, 0, -32768, 32767), -63)
        self.assertEqual(self.steps(0, 0, -32767, 32767), 0)
        self.assertEqual(self.steps(-2, 0, 2 ** 30, -32767), -85)
        self.assertEqual(self.steps(2, 0, -2 ** 30, 32767), 64)

    def test_down(self):
        self.assertEqual(self.steps(0, 0, 32767, -40000), -63)
        self.assertEqual(self.steps(0, 0, 32767, -32769), -63)
        self.assertEqual(self.steps(0, 0, -32766, 40000), 64)
        self.assertEqual(self.steps(0, 0, -32766, 32768), 64)
        self.assertEqual(self.steps(0, 0, -32768, 2 ** 30), -63)

    def test_the_first_sum(self):
        self.assertEqual(self.steps(127, 7, 32767, -32766), 64)
        self.assertEqual(self.steps(1, 0, 32767, -32766), 64)
        self.assertEqual(self.steps(-128, 7, -32768, 32767), -63)
        self.assertEqual(self.steps(-1, 0, -32768, 32767), -63)

    def test_the_second_sum(self):
        self.assertEqual(self.steps(0, 0, 32767, 32767, -32766, 0), 64)
        self.assertEqual(self.steps(0, 0, 32767, 1, -32766, 0), 64)
        self.assertEqual(self.steps(0, 0, -32768, -32768, 32767, 0), -63)
        self.assertEqual(self.steps(0, 0, -32768, -1, 32767, 0), -63)


class HeldToAByte(unittest.TestCase):
    def test_value(self):
        for number, r in ((300, 1), (128, 1), (127, 1), (126, 0), (2 ** 30, 1)):
            net = narrow_net()
            add(net, "value", number)
            net["layer"][0]["out"] = scaled([[1]], added=-126)
            self.assertEqual(told(net, 0), TOLD[r], number)
        for number, r in ((-300, -1), (-129, -1), (-128, -1), (-127, 0), (-2 ** 30, -1)):
            net = narrow_net()
            add(net, "value", number)
            net["layer"][0]["out"] = scaled([[1]], added=127)
            self.assertEqual(told(net, 0), TOLD[r], number)

    def heads_number(self, falling, query, key):
        """What the head has behind words 0 and 1, whose levels are 0 and 1 and whose values are 0 and 100."""
        net = narrow_net()
        net["falling"] = falling
        layer = net["layer"][0]
        layer["first"] = [128]
        layer["query"] = query
        layer["key"] = key
        layer["value"] = scaled([[100]])
        for guess in (0, 20, 50, 80, 100):
            layer["out"] = scaled([[1]], added=-guess)
            if told(net, 0, 1) == TOLD[1]:
                return guess
        return None

    def table(self, place):
        """100 ahead of the place, 25 there, 0 behind it."""
        return [100] * place + [25] + [0] * (255 - place)

    def test_query(self):
        key = scaled([[1]])
        for number, place, expected in ((300, 127, 80), (128, 127, 80), (127, 127, 80), (126, 127, 50),
                                        (-300, 128, 20), (-129, 128, 20), (-128, 128, 20), (-127, 128, 50)):
            query = scaled([[0]], added=number)
            self.assertEqual(self.heads_number(self.table(place), query, key), expected, number)

    def test_key(self):
        query = scaled([[0]], added=1)
        for times, place, expected in ((300, 127, 80), (128, 127, 80), (127, 127, 80), (126, 127, 50),
                                       (-300, 128, 20), (-129, 128, 20), (-128, 128, 20), (-127, 128, 50)):
            key = scaled([[1 if times > 0 else -1]], multiplied=2 * abs(times))
            self.assertEqual(self.heads_number(self.table(place), query, key), expected, times)

    def test_up_and_the_bend(self):
        for number, place in ((300, 255), (128, 255), (127, 255), (126, 254), (1, 129), (0, 128), (-1, 127),
                              (-127, 1), (-128, 0), (-129, 0), (-300, 0), (-2 ** 30, 0), (2 ** 30, 255)):
            net = narrow_net()
            net["bend"] = [0] * 256
            net["bend"][place] = -1
            add(net, "up", number)
            net["layer"][0]["down"] = scaled([[1]])
            self.assertEqual(told(net, 0), -63, number)
            net["bend"][place] = 3
            self.assertEqual(told(net, 0), 95, number)
            net["bend"][place] = 0
            self.assertEqual(told(net, 0), 0, number)

    def test_the_bend_is_signed(self):
        net = narrow_net()
        net["bend"][128] = -128
        net["layer"][0]["down"] = scaled([[1]], added=127)
        self.assertEqual(told(net, 0), -63)
        net["bend"][128] = 127
        net["layer"][0]["down"] = scaled([[1]], added=-126)
        self.assertEqual(told(net, 0), 64)


class Heads(unittest.TestCase):
    def test_a_half_goes_up(self):
        for row, expected in ((1, 1), (-1, 0), (3, 2), (-3, -1)):
            net = narrow_net(0)
            net["word"].append([row])
            net["leaning"].append(0)
            net["words"] = 3
            layer = net["layer"][0]
            layer["first"] = [64 * (abs(row) + 1)]
            layer["value"] = scaled([[1]])
            layer["out"] = scaled([[1]])
            self.assertEqual(told(net, 2, 0), TOLD[expected], row)

    def test_a_word_looks_back_but_never_ahead(self):
        net = narrow_net()
        layer = net["layer"][0]
        layer["first"] = [128]
        layer["value"] = scaled([[4]])
        layer["out"] = scaled([[1]])
        self.assertEqual(told(net, 0), TOLD[0])
        self.assertEqual(told(net, 1, 0), TOLD[2])
        self.assertEqual(told(net, 1, 0, 0), TOLD[1])
        self.assertEqual(told(net, 1, 1, 0), TOLD[3])

    def test_the_falling_table_at_255_and_beyond(self):
        for query, key, c, expected in ((1, 127, 0, 50), (2, 127, 0, 50), (5, 51, 0, 80), (2, 128, 0, 80),
                                        (127, 127, 0, 80), (127, 127, 6, 50), (4, 127, 1, 50), (7, 73, 1, 80),
                                        (4, 128, 1, 80), (127, 127, 5, 80), (127, 127, 24, 50)):
            # Word 0's key is -128 or -1 where word 1's is 0 or more, so that their difference is the key told.
            net = narrow_net()
            layer = net["layer"][0]
            layer["first"] = [128]
            layer["c"] = c
            layer["query"] = scaled([[0]], added=query)
            layer["key"] = scaled([[min(key, 127)]], added=-1) if key < 128 else scaled([[64]], multiplied=4, added=-64)
            layer["value"] = scaled([[100]])
            net["falling"] = [100] * 255 + [25]
            layer["out"] = scaled([[1]], added=-expected)
            self.assertEqual(told(net, 0, 1), TOLD[1], (query, key, c))

    def test_a_difference_goes_towards_below(self):
        for query, expected in ((3, 50), (4, 80), (7, 80), (8, 100)):
            net = narrow_net()
            layer = net["layer"][0]
            layer["first"] = [128]
            layer["c"] = 2
            layer["query"] = scaled([[0]], added=query)
            layer["key"] = scaled([[1]])
            layer["value"] = scaled([[100]])
            layer["out"] = scaled([[1]], added=-expected)
            net["falling"] = [100, 25] + [0] * 254
            self.assertEqual(told(net, 0, 1), TOLD[1], query)

    def two_words_by_heads(self, heads, added):
        """Keys are 10, 0 and 0, 10, the query 1, 1, the values 40, 40 and 0, 0; r is then told."""
        net = silent_net([[1, 0], [0, 1]], heads=heads, last=[1280] * 2)
        net["falling"] = [3] + [1] * 255
        layer = net["layer"][0]
        layer["first"] = [64] * 2
        layer["query"] = scaled(zeros(2, 2), added=1)
        layer["key"] = scaled(one_to_one(2, 10))
        layer["value"] = scaled([[40, 0], [40, 0]])
        layer["out"] = scaled(one_to_one(2), added=added)
        return ask_net(net, feed(0, 1), tell())[1][1:]

    def test_each_head_weighs_by_its_own_numbers(self):
        self.assertEqual(self.two_words_by_heads(2, [-30, -10]), [0, 20])
        self.assertEqual(self.two_words_by_heads(1, [-20, -20]), [0, 20])
        self.assertEqual(self.two_words_by_heads(2, [-29, -11]), [20, 0])
        self.assertEqual(self.two_words_by_heads(1, [-19, -21]), [20, 0])


class Layers(unittest.TestCase):
    def test_each_layer_goes_on_from_the_one_before(self):
        net = narrow_net(layers=3)
        add(net, "out", 1, 0)
        for number in (1, 2):
            net["layer"][number]["first"] = [128]
            net["layer"][number]["value"] = scaled([[number]])
            net["layer"][number]["out"] = scaled([[1]])
        # r is 1 behind the first; 1 levelled is 1, so 2 behind the second; 2 levelled is 1, so 4 behind the third.
        self.assertEqual(told(net, 0), TOLD[4])

    def test_each_layer_keeps_its_own(self):
        net = narrow_net(layers=2)
        for number in (0, 1):
            net["layer"][number]["first"] = [128]
            net["layer"][number]["out"] = scaled([[1]])
        net["layer"][1]["value"] = scaled([[4]])
        # Only the second layer looks back: of word 1 it has 4, of word 0 it has 0.
        self.assertEqual(told(net, 1, 0), TOLD[2])

    def test_the_second_gains_level_what_goes_up(self):
        net = narrow_net(1)
        layer = net["layer"][0]
        layer["first"] = [0]
        layer["second"] = [384]
        layer["up"] = scaled([[1]])
        layer["down"] = scaled([[1]])
        self.assertEqual(told(net, 0), TOLD[4])
        layer["second"] = [-384]
        self.assertEqual(told(net, 0), TOLD[-2])


if __name__ == "__main__":
    unittest.main()
