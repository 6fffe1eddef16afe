import random
import unittest

from goingon.few import few_sum

from helper import broken_forms, check_call, check_most, form, form_answer, header, mask, some_matrix, to_byte, zeros

MUCH = 400000


def plain_sum(a, b):
    return [[to_byte(p + q) for p, q in zip(row, other)] for row, other in zip(a, b)]


def add(a, b, most=MUCH):
    return few_sum(most, form(a), form(b))


class Sums(unittest.TestCase):
    def test_one_place(self):
        empty = header(1, 1) + mask()
        self.assertEqual(few_sum(12, empty, empty), [12] + empty)
        self.assertEqual(few_sum(13, empty, header(1, 1) + mask(0) + [3]), [13] + header(1, 1) + mask(0) + [3])
        self.assertEqual(few_sum(13, header(1, 1) + mask(0) + [253], empty), [13] + header(1, 1) + mask(0) + [253])

    def test_places_that_one_or_both_have(self):
        self.assertEqual(add([[1, 0, 2, 0]], [[0, 3, 4, 0]]), form_answer([[1, 3, 6, 0]]))
        self.assertEqual(add([[0, 0], [5, 0]], [[0, -7], [0, 0]]), form_answer([[0, -7], [5, 0]]))
        # What only b has may stand ahead of what a has, between it and behind it.
        self.assertEqual(add([[0, 1, 0, 2, 0]], [[3, 0, 4, 0, 5]]), form_answer([[3, 1, 4, 2, 5]]))

    def test_sums_of_0(self):
        self.assertEqual(add([[5, -128, 1]], [[-5, 127, -1]]), form_answer([[0, -1, 0]]))
        self.assertEqual(add([[7]], [[-7]]), [12] + header(1, 1) + mask())

    def test_held_to_a_byte(self):
        for p, q, number in ((127, 1, 127), (127, 127, 127), (64, 63, 127), (64, 64, 127), (63, 63, 126),
                             (-128, -1, -128), (-128, -128, -128), (-64, -64, -128), (-64, -65, -128),
                             (-64, -63, -127), (127, -128, -1), (-128, 127, -1)):
            self.assertEqual(add([[p]], [[q]]), form_answer([[number]]))

    def test_several_blocks(self):
        a, b = zeros(2, 130), zeros(2, 130)
        a[0][63] = a[1][64] = a[1][129] = 100
        b[0][64] = b[1][64] = b[0][129] = 99
        b[1][129] = -100
        expected = zeros(2, 130)
        expected[0][63], expected[0][64], expected[0][129], expected[1][64] = 100, 99, 99, 127
        self.assertEqual(add(a, b), form_answer(expected))

    def test_many(self):
        source = random.Random(31)
        for rows, columns in ((1, 1), (1, 5), (5, 1), (3, 64), (3, 65), (70, 70), (2, 200), (4096, 2), (2, 4096)):
            for share in (0.01, 0.3, 1):
                a, b = some_matrix(source, rows, columns, share), some_matrix(source, rows, columns, 0.5)
                self.assertEqual(add(a, b), form_answer(plain_sum(a, b)))
                self.assertEqual(add(b, a), form_answer(plain_sum(a, b)))


class Refused(unittest.TestCase):
    def test_rows_or_columns_that_differ(self):
        for a, b in (((1, 1), (1, 2)), ((1, 1), (2, 1)), ((2, 3), (3, 2)), ((2, 3), (2, 4)), ((2, 3), (1, 3)),
                     ((2, 64), (2, 65)), ((1, 6), (2, 3))):
            self.assertEqual(add(zeros(*a), zeros(*b)), [-3])
            self.assertEqual(add(zeros(*b), zeros(*a)), [-3])

    def test_faults(self):
        good = form([[1, 2], [3, 4]])
        for data in broken_forms():
            self.assertEqual(few_sum(MUCH, data, good), [-2])
            self.assertEqual(few_sum(MUCH, good, data), [-2])
            self.assertEqual(few_sum(MUCH, data, data), [-2])

    def test_more_than_2097152_bytes(self):
        good, long, longer = form([[1]]), [1] * 2097152, [1] * 2097153
        for a, b in ((longer, good), (good, longer), (longer, longer), (long, longer), (longer, long)):
            self.assertEqual(few_sum(MUCH, a, b), [-1])
        for a, b in ((long, good), (good, long), (long, long)):
            self.assertEqual(few_sum(MUCH, a, b), [-2])

    def test_most(self):
        for a, b in (([[0]], [[0]]), ([[1, 2]], [[3, -2]]), ([[1] * 70], [[0] * 70]), ([[1], [0]], [[0], [1]])):
            expected = form_answer(plain_sum(a, b))
            check_most(self, lambda most: add(a, b, most), expected[0], expected)

    def test_which_goes_first(self):
        one, two = form([[1]]), form([[1], [2]])
        for data in broken_forms():
            for most in (-1, 2097153):
                self.assertEqual(few_sum(most, data, one), [-1])
                self.assertEqual(few_sum(most, one, data), [-1])
            self.assertEqual(few_sum(0, data, two), [-2])
            self.assertEqual(few_sum(0, two, data), [-2])
        for most in (-1, 2097153):
            self.assertEqual(few_sum(most, one, two), [-1])
        self.assertEqual(few_sum(0, one, two), [-3])
        self.assertEqual(few_sum(0, one, one), [-4])

    def test_unchanged_and_asked_twice(self):
        a, b = form([[1, 0, -128], [127, -1, 0]]), form([[1, 5, -1], [1, 1, 0]])
        check_call(self, few_sum, [MUCH, a, b], form_answer([[2, 5, -128], [127, 0, 0]]))
        check_call(self, few_sum, [-1, a, b], [-1])
        check_call(self, few_sum, [MUCH, a, b[:-1]], [-2])
        check_call(self, few_sum, [MUCH, a, form([[1]])], [-3])
        check_call(self, few_sum, [23, a, b], [-4])
        self.assertEqual(few_sum(MUCH, b, b), form_answer([[2, 10, -2], [2, 2, 0]]))


if __name__ == "__main__":
    unittest.main()
