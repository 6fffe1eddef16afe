import random
import unittest

from goingon.few import few_make

from helper import check_call, check_most, form, form_answer, header, mask, to_byte, zeros

MUCH = 400000


def make(rows, cols, pairs, most=MUCH):
    return few_make(rows, cols, most, [place for place, value in pairs], [value for place, value in pairs])


def plain_make(rows, cols, pairs):
    matrix = zeros(rows, cols)
    for place, value in pairs:
        matrix[place // cols][place % cols] += value
    return [[to_byte(number) for number in row] for row in matrix]


def some_pairs(source, rows, cols, count):
    spread = source.choice((1, 5, 100, 200, 32768))
    return [(source.randrange(rows * cols), source.randint(-spread, spread - 1)) for k in range(count)]


class Matrices(unittest.TestCase):
    def test_no_pair_at_all(self):
        self.assertEqual(make(1, 1, []), [12] + header(1, 1) + mask())
        self.assertEqual(make(2, 3, []), [20] + header(2, 3) + mask() * 2)
        self.assertEqual(make(2, 65, []), [36] + header(2, 65) + mask() * 4)

    def test_one_pair(self):
        self.assertEqual(make(1, 1, [(0, 5)]), [13] + header(1, 1) + mask(0) + [5])
        self.assertEqual(make(2, 3, [(4, -1)]), [21] + header(2, 3) + mask() + mask(1) + [255])
        self.assertEqual(make(3, 2, [(4, -1)]), [29] + header(3, 2) + mask() * 2 + mask(0) + [255])

    def test_any_order(self):
        pairs = [(0, 1), (1, 2), (3, 4), (4, 5), (5, -6)]
        expected = [33] + header(3, 2) + mask(0, 1) + [1, 2] + mask(1) + [4] + mask(0, 1) + [5, 250]
        source = random.Random(1)
        for time in range(20):
            self.assertEqual(make(3, 2, pairs), expected)
            source.shuffle(pairs)
        self.assertEqual(make(3, 2, sorted(pairs, reverse=True)), expected)

    def test_several_blocks(self):
        places = (0, 63, 64, 127, 128, 129, 130, 193, 194, 259)
        expected = [4 + 6 * 8 + 10] + header(2, 130)
        expected += mask(0, 63) + [1, 2] + mask(0, 63) + [3, 4] + mask(0, 1) + [5, 6]
        expected += mask(0, 63) + [7, 8] + mask(0) + [9] + mask(1) + [10]
        self.assertEqual(make(2, 130, [(place, k + 1) for k, place in enumerate(places)]), expected)

    def test_a_block_just_full(self):
        for cols in (63, 64, 65, 128):
            self.assertEqual(make(2, cols, [(place, 7) for place in range(2 * cols)]), form_answer([[7] * cols] * 2))

    def test_many(self):
        source = random.Random(2)
        for time in range(60):
            rows, cols = source.randint(1, 9), source.choice((1, 2, 5, 64, 65, 200))
            pairs = some_pairs(source, rows, cols, source.randint(0, 3 * rows * cols))
            self.assertEqual(make(rows, cols, pairs), form_answer(plain_make(rows, cols, pairs)))

    def test_30000_pairs(self):
        source = random.Random(3)
        pairs = some_pairs(source, 100, 200, 30000)
        self.assertEqual(make(100, 200, pairs), form_answer(plain_make(100, 200, pairs)))
        self.assertEqual(make(3, 3, [(8, 1)] * 30000), form_answer([[0] * 3, [0] * 3, [0, 0, 127]]))


class Sums(unittest.TestCase):
    def check(self, values, number):
        for k in range(len(values)):
            pairs = [(1, value) for value in values[k:] + values[:k]]
            self.assertEqual(make(1, 3, pairs), form_answer([[0, number, 0]]), values)

    def test_held_to_a_byte(self):
        for value, number in ((127, 127), (128, 127), (129, 127), (32767, 127), (126, 126), (255, 127), (256, 127),
                              (-128, -128), (-129, -128), (-130, -128), (-32768, -128), (-127, -127), (-256, -128)):
            self.check([value], number)

    def test_several_values(self):
        self.check([1, 2, 3], 6)
        self.check([100, 27], 127)
        self.check([100, 28], 127)
        self.check([32767, 32767, 32767], 127)
        self.check([-100, -28], -128)
        self.check([-100, -29], -128)
        self.check([-32768, -32768], -128)

    def test_out_of_a_byte_and_back(self):
        self.check([100, 100, -100], 100)
        self.check([32767, 32767, -32768, -32766], 0)
        self.check([-128, -128, 129], -127)
        self.check([-32768, -32768, 32767, 32767, 1], -1)

    def test_sums_of_0(self):
        self.check([0], 0)
        self.check([0, 0], 0)
        self.check([5, -5], 0)
        self.check([256, -256], 0)
        self.check([0, 3], 3)

    def test_each_place_has_its_own(self):
        pairs = [(0, 5), (3, 7), (0, -5), (1, 200), (3, 1), (1, -100), (2, -300)]
        self.assertEqual(make(2, 2, pairs), form_answer([[0, 100], [-128, 8]]))


class Refused(unittest.TestCase):
    def test_rows_and_columns_at_their_edges(self):
        for rows, cols in ((1, 1), (4096, 1), (1, 4096), (4096, 256), (256, 4096), (1024, 1024)):
            size = 4 + rows * ((cols + 63) // 64) * 8
            answer = make(rows, cols, [(0, 1), (rows * cols - 1, 1)])
            self.assertEqual(answer[0], size + len({0, rows * cols - 1}))
            self.assertEqual(len(answer), answer[0] + 1)
            self.assertEqual(answer[1:5], header(rows, cols))

    def test_rows_and_columns_past_their_edges(self):
        for number in (0, -1, -4096, 4097, 65536, 65537, 2147483647, -2147483648):
            self.assertEqual(make(number, 1, []), [-1], number)
            self.assertEqual(make(1, number, []), [-1], number)
            self.assertEqual(make(number, number, []), [-1], number)

    def test_too_many_places(self):
        for rows, cols in ((4096, 257), (257, 4096), (1024, 1025), (1025, 1024), (4096, 4096)):
            self.assertEqual(make(rows, cols, [(0, 1)]), [-1])

    def test_a_place_beyond_the_last(self):
        for rows, cols in ((1, 1), (2, 3), (3, 2), (1, 65), (4096, 256)):
            last = rows * cols - 1
            self.assertGreater(make(rows, cols, [(last, 1)])[0], 0)
            for place in (last + 1, last + 2, 2147483648, 4294967295):
                self.assertEqual(make(rows, cols, [(place, 1)]), [-3])
                self.assertEqual(make(rows, cols, [(0, 1), (place, 0), (last, 1)]), [-3])
                self.assertEqual(make(rows, cols, [(0, 1), (place, 0)]), [-3])

    def test_more_than_65536_pairs(self):
        self.assertEqual(make(1, 1, [(0, 1)] * 65536), form_answer([[127]]))
        self.assertEqual(make(1, 1, [(0, 1)] * 65537), [-1])

    def test_most(self):
        for rows, cols, pairs in ((1, 1, []), (2, 3, [(1, 5), (4, -5)]), (3, 70, [(9, 1), (9, -1), (80, 5)])):
            expected = form_answer(plain_make(rows, cols, pairs))
            check_most(self, lambda most: make(rows, cols, pairs, most), expected[0], expected)

    def test_which_goes_first(self):
        for rows, cols, most in ((0, 1, 99), (1, 0, 99), (4097, 1, 99), (1024, 1025, 99), (1, 1, -1), (1, 1, 2097153)):
            self.assertEqual(make(rows, cols, [(4294967295, 1)], most), [-1])
        for most in (0, 11):
            self.assertEqual(make(1, 1, [(1, 1)], most), [-3])
            self.assertEqual(make(0, 1, [], most), [-1])
            self.assertEqual(make(1, 1, [(0, 1)], most), [-4])


class WhatIsHandedIn(unittest.TestCase):
    def test_unchanged_and_asked_twice(self):
        expected = form_answer([[0, 100], [-128, 0]])
        check_call(self, few_make, [2, 2, 400, [2, 1, 0, 1, 0], [-200, 60, 5, 40, -5]], expected)
        check_call(self, few_make, [2, 2, 400, [], []], form_answer(zeros(2, 2)))
        check_call(self, few_make, [2, 2, 400, [4], [1]], [-3])
        check_call(self, few_make, [2, 2, 4, [3], [1]], [-4])
        check_call(self, few_make, [2, 0, 4, [3], [1]], [-1])

    def test_what_comes_out_is_a_form(self):
        self.assertEqual(make(2, 2, [(3, -1)])[1:], form([[0, 0], [0, -1]]))


if __name__ == "__main__":
    unittest.main()
