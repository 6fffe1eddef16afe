import random
import unittest

from goingon.few import few_back, few_times

from helper import broken_forms, check_call, check_most, form, header, mask, some_matrix, zeros

CALLS = (few_times, few_back)


def times(matrix, x):
    return [len(matrix)] + [sum(row[j] * x[j] for j in range(len(x))) for row in matrix]


def back(matrix, x):
    columns = len(matrix[0])
    return [columns] + [sum(matrix[i][j] * x[i] for i in range(len(x))) for j in range(columns)]


def some_numbers(source, count):
    return [source.choice((-128, 127, source.randint(-128, 127))) for k in range(count)]


def matrices():
    source = random.Random(11)
    for rows, columns in ((1, 1), (1, 2), (2, 1), (1, 64), (64, 1), (1, 65), (65, 1), (1, 130), (130, 1), (2, 3),
                          (3, 2), (5, 64), (64, 5), (9, 200), (200, 9), (65, 66), (66, 65)):
        for share in (0, 0.1, 1):
            yield some_matrix(source, rows, columns, share)


class Times(unittest.TestCase):
    def test_one_place(self):
        self.assertEqual(few_times(1, header(1, 1) + mask(), [5]), [1, 0])
        for number in (1, -1, 127, -128):
            for factor in (0, 1, -1, 127, -128):
                self.assertEqual(few_times(1, form([[number]]), [factor]), [1, number * factor])

    def test_one_row(self):
        self.assertEqual(few_times(1, form([[1, 0, -3]]), [10, 20, 30]), [1, -80])

    def test_one_column(self):
        self.assertEqual(few_times(3, form([[1], [0], [-3]]), [10]), [3, 10, 0, -30])

    def test_rows_and_columns_that_differ(self):
        self.assertEqual(few_times(2, form([[1, 2, 3], [4, 5, 6]]), [1, -10, 100]), [2, 281, 554])
        self.assertEqual(few_times(3, form([[1, 2], [3, 4], [5, 6]]), [1, -10]), [3, -19, -37, -55])

    def test_several_blocks(self):
        row = [0] * 130
        row[0], row[63], row[64], row[127], row[128], row[129] = 1, 2, 3, 4, 5, 6
        x = [0] * 130
        for column, expected in ((0, 1), (1, 0), (63, 2), (64, 3), (65, 0), (127, 4), (128, 5), (129, 6)):
            x[column] = -7
            self.assertEqual(few_times(2, form([[0] * 130, row]), x), [2, 0, -7 * expected])
            x[column] = 0

    def test_sums_are_not_held(self):
        for number in (-128, 127):
            for factor in (-128, 127):
                expected = [1, 4096 * number * factor]
                self.assertEqual(few_times(1, form([[number] * 4096]), [factor] * 4096), expected)

    def test_many(self):
        source = random.Random(12)
        for matrix in matrices():
            x = some_numbers(source, len(matrix[0]))
            self.assertEqual(few_times(4096, form(matrix), x), times(matrix, x))

    def test_most_rows(self):
        matrix = [[(i * 5) % 256 - 128] for i in range(4096)]
        self.assertEqual(few_times(4096, form(matrix), [-2]), times(matrix, [-2]))
        self.assertEqual(few_times(4095, form(matrix), [-2]), [-4])


class Back(unittest.TestCase):
    def test_one_place(self):
        self.assertEqual(few_back(1, header(1, 1) + mask(), [5]), [1, 0])
        for number in (1, -1, 127, -128):
            for factor in (0, 1, -1, 127, -128):
                self.assertEqual(few_back(1, form([[number]]), [factor]), [1, number * factor])

    def test_one_row(self):
        self.assertEqual(few_back(3, form([[1, 0, -3]]), [10]), [3, 10, 0, -30])

    def test_one_column(self):
        self.assertEqual(few_back(1, form([[1], [0], [-3]]), [10, 20, 30]), [1, -80])

    def test_rows_and_columns_that_differ(self):
        self.assertEqual(few_back(3, form([[1, 2, 3], [4, 5, 6]]), [1, -10]), [3, -39, -48, -57])
        self.assertEqual(few_back(2, form([[1, 2], [3, 4], [5, 6]]), [1, -10, 100]), [2, 471, 562])

    def test_several_blocks(self):
        matrix = zeros(2, 130)
        matrix[1][63] = matrix[0][64] = matrix[1][129] = -5
        expected = [0] * 130
        expected[63], expected[64], expected[129] = -10, 15, -10
        self.assertEqual(few_back(130, form(matrix), [-3, 2]), [130] + expected)

    def test_sums_are_not_held(self):
        for number in (-128, 127):
            for factor in (-128, 127):
                expected = [1, 4096 * number * factor]
                self.assertEqual(few_back(1, form([[number]] * 4096), [factor] * 4096), expected)

    def test_many(self):
        source = random.Random(13)
        for matrix in matrices():
            x = some_numbers(source, len(matrix))
            self.assertEqual(few_back(4096, form(matrix), x), back(matrix, x))

    def test_most_columns(self):
        matrix = [[(j * 5) % 256 - 128 for j in range(4096)]]
        self.assertEqual(few_back(4096, form(matrix), [-2]), back(matrix, [-2]))
        self.assertEqual(few_back(4095, form(matrix), [-2]), [-4])


class Refused(unittest.TestCase):
    def test_k_one_too_few_and_one_too_many(self):
        for rows, columns in ((1, 1), (2, 3), (3, 2), (1, 65), (65, 1)):
            data = form(zeros(rows, columns))
            for k in (0, 1, 2, 3, 4, 64, 65, 66, 4096):
                x = [1] * k
                self.assertEqual(few_times(4096, data, x), [rows] + [0] * rows if k == columns else [-3])
                self.assertEqual(few_back(4096, data, x), [columns] + [0] * columns if k == rows else [-3])

    def test_more_than_4096_numbers(self):
        for call in CALLS:
            self.assertEqual(call(4096, form([[1]]), [1] * 4096), [-3])
            self.assertEqual(call(4096, form([[1]]), [1] * 4097), [-1])

    def test_most(self):
        for matrix in ([[1]], [[1, 2, 3]], [[1], [2]], zeros(5, 70)):
            x = [3] * len(matrix[0])
            check_most(self, lambda most: few_times(most, form(matrix), x), len(matrix), times(matrix, x), 4096)
            x = [3] * len(matrix)
            check_most(self, lambda most: few_back(most, form(matrix), x), len(matrix[0]), back(matrix, x), 4096)

    def test_each_kind_of_fault(self):
        for call in CALLS:
            for data in broken_forms():
                for k in (0, 1, 2):
                    self.assertEqual(call(4096, data, [1] * k), [-2], data)

    def test_more_than_2097152_bytes(self):
        for call in CALLS:
            self.assertEqual(call(4096, [1] * 2097153, [1]), [-1])
            self.assertEqual(call(4096, [1] * 2097152, [1]), [-2])

    def test_which_goes_first(self):
        good = form([[1, 2], [3, 4]])
        for call in CALLS:
            for data in broken_forms():
                for most in (-1, 4097):
                    self.assertEqual(call(most, data, [1]), [-1])
                self.assertEqual(call(4096, data, [1] * 4097), [-1])
                self.assertEqual(call(0, data, [1]), [-2])
                self.assertEqual(call(0, data, []), [-2])
            self.assertEqual(call(-1, good, [1]), [-1])
            self.assertEqual(call(4097, good, [1, 1]), [-1])
            for k in (0, 1, 3):
                self.assertEqual(call(0, good, [1] * k), [-3])
            self.assertEqual(call(1, good, [1, 1]), [-4])

    def test_unchanged_and_asked_twice(self):
        matrix = [[1, 0, -128], [127, -1, 0]]
        check_call(self, few_times, [2, form(matrix), [3, -4, 5]], [2, -637, 385])
        check_call(self, few_back, [3, form(matrix), [3, -4]], [3, -505, 4, -384])
        for call in CALLS:
            check_call(self, call, [-1, form(matrix), [1]], [-1])
            check_call(self, call, [5, form(matrix) + [1], [1]], [-2])
            check_call(self, call, [5, form(matrix), []], [-3])
            check_call(self, call, [1, form([[1, 2], [3, 4]]), [1, 2]], [-4])


if __name__ == "__main__":
    unittest.main()
