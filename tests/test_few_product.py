import random
import unittest

from goingon.few import few_product

from helper import (broken_forms, check_call, check_most, form, form_answer, header, mask, near, one_to_one,
                    some_matrix, to_byte, zeros)

MUCH = 400000


def plain_product(a, b, sh):
    columns = list(zip(*b))
    return [[to_byte(near(sum(p * q for p, q in zip(row, column)), 2 ** sh)) for column in columns] for row in a]


def product(a, b, sh=0, most=MUCH):
    return few_product(sh, most, form(a), form(b))


def one_sum(total):
    """A row and a column whose sum of products is this total."""
    whole, rest = divmod(abs(total), 127 * 127)
    row = [127] * whole + [rest // 127, rest % 127]
    column = [127] * whole + [127, 1]
    return [row], [[number if total > 0 else -number] for number in column]


class Products(unittest.TestCase):
    def test_one_place(self):
        self.assertEqual(product([[0]], [[0]]), [12] + header(1, 1) + mask())
        self.assertEqual(product([[3]], [[-5]]), [13] + header(1, 1) + mask(0) + [241])
        self.assertEqual(product([[3]], [[0]]), [12] + header(1, 1) + mask())

    def test_rows_by_columns(self):
        a, b = [[1, 2, 3], [4, 5, 6]], [[1, 0], [0, 2], [-1, 1]]
        self.assertEqual(product(a, b), form_answer([[-2, 7], [-2, 16]]))
        self.assertEqual(product(b, a), form_answer([[1, 2, 3], [8, 10, 12], [3, 3, 3]]))

    def test_a_row_and_a_column(self):
        self.assertEqual(product([[1, 2, 3]], [[4], [5], [6]]), form_answer([[32]]))
        self.assertEqual(product([[4], [0], [6]], [[1, 0, -3]]), form_answer([[4, 0, -12], [0, 0, 0], [6, 0, -18]]))

    def test_one_to_one(self):
        source = random.Random(21)
        for rows, columns in ((1, 1), (2, 130), (70, 3), (64, 65)):
            matrix = some_matrix(source, rows, columns, 0.5)
            self.assertEqual(product(one_to_one(rows), matrix), form_answer(matrix))
            self.assertEqual(product(matrix, one_to_one(columns)), form_answer(matrix))

    def test_several_blocks(self):
        matrix = zeros(3, 130)
        for i, j, number in ((0, 0, 1), (0, 63, -2), (1, 64, 3), (1, 127, -4), (2, 128, 5), (2, 129, -6)):
            matrix[i][j] = number
        self.assertEqual(product([[10, 0, 1], [0, -10, 0]], matrix), form_answer(plain_product(
            [[10, 0, 1], [0, -10, 0]], matrix, 0)))
        self.assertEqual(product([[1] * 130], [[1 if j in (63, 64, 129) else 0] for j in range(130)]),
                         form_answer([[3]]))

    def test_neighbours_of_both_signs_stay_apart(self):
        for most_products in (1, 2, 100, 1000):
            a = [[-128] * most_products, [127] * most_products]
            line = [-128, 127, -128, -128, 0, 127, 127, -1, 1, 0, 0, -128] + [0] * 50 + [127, -128, 127, -128]
            b = [line] * most_products
            for sh in (0, 7, 14, 17, 20, 24):
                self.assertEqual(product(a, b, sh), form_answer(plain_product(a, b, sh)))

    def test_4096_products(self):
        for number in (-128, 127):
            for factor in (-128, 127):
                a, b = [[number] * 4096], [[factor, -factor - 1, 0]] * 4096
                for sh in (0, 18, 19, 20, 26, 27, 28):
                    self.assertEqual(product(a, b, sh), form_answer(plain_product(a, b, sh)))

    def test_many(self):
        source = random.Random(22)
        for time in range(80):
            rows, between, columns = (source.choice((1, 2, 3, 9, 64, 65, 130)) for k in range(3))
            share = source.choice((0.02, 0.2, 1))
            a, b = some_matrix(source, rows, between, share), some_matrix(source, between, columns, share)
            sh = source.choice((0, 1, 5, 8, 10, 12, 30))
            self.assertEqual(product(a, b, sh), form_answer(plain_product(a, b, sh)))


class Rounded(unittest.TestCase):
    def check(self, total, sh, number):
        self.assertEqual(product(*one_sum(total), sh), form_answer([[number]]), (total, sh))

    def test_halves(self):
        for total, number in ((1, 1), (2, 1), (3, 2), (4, 2), (5, 3), (-1, 0), (-2, -1), (-3, -1), (-4, -2), (-5, -2)):
            self.check(total, 1, number)

    def test_quarters(self):
        for total, number in ((1, 0), (2, 1), (3, 1), (4, 1), (5, 1), (6, 2), (7, 2), (-1, 0), (-2, 0), (-3, -1),
                              (-4, -1), (-5, -1), (-6, -1), (-7, -2), (-10, -2), (-11, -3)):
            self.check(total, 2, number)

    def test_sh_of_0(self):
        for total in (1, -1, 5, 127, -128, 126, -127):
            self.check(total, 0, total)

    def test_sh_of_30(self):
        self.check(10 ** 6, 30, 0)
        self.check(-10 ** 6, 30, 0)
        self.assertEqual(product([[-128] * 4096], [[-128]] * 4096, 30), form_answer([[0]]))

    def test_the_greatest_sum(self):
        for sh, number in ((26, 1), (27, 1), (28, 0), (25, 2), (20, 64), (19, 127), (0, 127)):
            self.assertEqual(product([[-128] * 4096], [[-128]] * 4096, sh), form_answer([[number]]), sh)
        for sh, number in ((26, -1), (27, 0), (28, 0), (25, -2), (20, -63), (19, -127), (18, -128), (0, -128)):
            self.assertEqual(product([[-128] * 4096], [[127]] * 4096, sh), form_answer([[number]]), sh)

    def test_held_to_a_byte(self):
        for total, number in ((126, 126), (127, 127), (128, 127), (129, 127), (256, 127), (100000, 127),
                              (-127, -127), (-128, -128), (-129, -128), (-256, -128), (-100000, -128)):
            self.check(total, 0, number)

    def test_rounded_ahead_of_being_held(self):
        for total, number in ((253, 127), (254, 127), (255, 127), (256, 127), (-255, -127), (-256, -128), (-257, -128),
                              (-258, -128), (-100001, -128), (252, 126), (251, 126), (-254, -127), (-253, -126)):
            self.check(total, 1, number)

    def test_sums_of_0(self):
        self.assertEqual(product([[1, 1]], [[5], [-5]]), form_answer([[0]]))
        self.assertEqual(product([[1, 1]], [[5, 1, 3], [-5, 0, -3]]), form_answer([[0, 1, 0]]))
        self.assertEqual(product([[1]], [[1, 2, -2, -3]], 2), form_answer([[0, 1, 0, -1]]))


class Refused(unittest.TestCase):
    def test_sh(self):
        for sh in (0, 1, 29, 30):
            self.assertGreater(product([[1]], [[1]], sh)[0], 0)
        for sh in (-1, 31, 32, 64, -2147483648, 2147483647):
            self.assertEqual(product([[1]], [[1]], sh), [-1])

    def test_columns_that_are_not_b_s_rows(self):
        for a, b in (((1, 2), (1, 2)), ((2, 3), (2, 3)), ((2, 3), (4, 3)), ((3, 3), (2, 3)), ((3, 1), (2, 3))):
            self.assertEqual(product(zeros(*a), zeros(*b)), [-3])
        self.assertEqual(product(zeros(2, 3), zeros(3, 2)), form_answer(zeros(2, 2)))

    def test_too_many_places(self):
        for rows, columns in ((4096, 257), (4096, 4096), (1025, 1024), (257, 4096)):
            self.assertEqual(product(zeros(rows, 1), zeros(1, columns)), [-3])
        for rows, columns in ((4096, 256), (1024, 1024), (256, 4096)):
            self.assertEqual(product(zeros(rows, 1), zeros(1, columns)),
                             [131076] + header(rows, columns) + [0] * 131072)

    def test_many_places_that_are_not_0(self):
        self.assertEqual(product([[1]] * 4096, [[1] * 256]), [-4])

    def test_faults(self):
        good = form([[1, 2], [3, 4]])
        for data in broken_forms():
            self.assertEqual(few_product(0, MUCH, data, good), [-2])
            self.assertEqual(few_product(0, MUCH, good, data), [-2])
            self.assertEqual(few_product(0, MUCH, data, data), [-2])

    def test_more_than_2097152_bytes(self):
        good, long, longer = form([[1]]), [1] * 2097152, [1] * 2097153
        for a, b in ((longer, good), (good, longer), (longer, longer), (long, longer), (longer, []), ([], longer)):
            self.assertEqual(few_product(0, MUCH, a, b), [-1])
        for a, b in ((long, good), (good, long), (long, long)):
            self.assertEqual(few_product(0, MUCH, a, b), [-2])

    def test_most(self):
        for a, b in (([[0]], [[1]]), ([[1, 2]], [[3], [4]]), ([[1], [0]], [[1] * 70]), ([[1, 1]], [[5], [-5]])):
            expected = form_answer(plain_product(a, b, 0))
            check_most(self, lambda most: product(a, b, 0, most), expected[0], expected)

    def test_which_goes_first(self):
        one, two, wide, high = form([[1]]), form([[1], [2]]), form(zeros(1, 4096)), form(zeros(4096, 1))
        for data in broken_forms():
            for sh, most in ((-1, 0), (31, 0), (0, -1), (0, 2097153)):
                self.assertEqual(few_product(sh, most, data, one), [-1])
                self.assertEqual(few_product(sh, most, one, data), [-1])
            self.assertEqual(few_product(0, 0, data, two), [-2])
            self.assertEqual(few_product(0, 0, two, data), [-2])
        for sh, most in ((-1, 0), (31, 0), (0, -1), (0, 2097153)):
            self.assertEqual(few_product(sh, most, one, two), [-1])
        self.assertEqual(few_product(0, 0, one, two), [-3])
        self.assertEqual(few_product(0, 0, high, wide), [-3])
        self.assertEqual(few_product(0, 0, two, one), [-4])

    def test_unchanged_and_asked_twice(self):
        a, b = form([[1, 0, -128], [127, -1, 0]]), form([[1], [-1], [2]])
        check_call(self, few_product, [0, MUCH, a, b], form_answer([[-128], [127]]))
        check_call(self, few_product, [5, MUCH, a, b], form_answer([[-8], [4]]))
        check_call(self, few_product, [31, MUCH, a, b], [-1])
        check_call(self, few_product, [0, MUCH, a, b + [0]], [-2])
        check_call(self, few_product, [0, MUCH, a, a], [-3])
        check_call(self, few_product, [0, 21, a, b], [-4])
        same = form([[1, 2], [3, 4]])
        check_call(self, few_product, [0, MUCH, same, same], form_answer([[7, 10], [15, 22]]))
        self.assertEqual(few_product(0, MUCH, same, same), form_answer([[7, 10], [15, 22]]))


if __name__ == "__main__":
    unittest.main()
