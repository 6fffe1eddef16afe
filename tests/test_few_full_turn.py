import random
import unittest

from goingon.few import few_full, few_turn

from helper import broken_forms, check_call, check_most, form, form_answer, header, mask, some_matrix, zeros

MUCH = 400000


def full_answer(matrix):
    return [len(matrix) * len(matrix[0])] + [number for row in matrix for number in row]


def turned(matrix):
    return [list(column) for column in zip(*matrix)]


def matrices():
    """Of one place, one row, one column, several blocks, and many more."""
    source = random.Random(7)
    yield from ([[0]], [[1]], [[-128]], [[127]], [[5, 0, -5]], [[5], [0], [-5]], zeros(3, 5))
    shapes = [(1, 1), (1, 64), (64, 1), (1, 65), (65, 1), (1, 200), (200, 1), (2, 3), (3, 2), (63, 64), (64, 65),
              (65, 66), (3, 130), (130, 3), (7, 129), (128, 128)]
    for rows, columns in shapes:
        for share in (0.05, 0.5, 1):
            yield some_matrix(source, rows, columns, share)


class Full(unittest.TestCase):
    def test_one_place(self):
        self.assertEqual(few_full(1, header(1, 1) + mask()), [1, 0])
        for byte, number in ((1, 1), (127, 127), (128, -128), (129, -127), (255, -1)):
            self.assertEqual(few_full(1, header(1, 1) + mask(0) + [byte]), [1, number])

    def test_row_by_row(self):
        self.assertEqual(few_full(6, header(2, 3) + mask(0, 2) + [1, 254] + mask(1) + [3]), [6, 1, 0, -2, 0, 3, 0])
        self.assertEqual(few_full(6, header(3, 2) + mask() + mask(0, 1) + [1, 2] + mask(1) + [3]), [6, 0, 0, 1, 2, 0, 3])

    def test_several_blocks(self):
        data = header(1, 130) + mask(0, 63) + [1, 2] + mask(1) + [3] + mask(0, 1) + [4, 128]
        expected = [0] * 130
        for column, number in ((0, 1), (63, 2), (65, 3), (128, 4), (129, -128)):
            expected[column] = number
        self.assertEqual(few_full(MUCH, data), [130] + expected)

    def test_many(self):
        for matrix in matrices():
            self.assertEqual(few_full(MUCH, form(matrix)), full_answer(matrix))

    def test_a_matrix_of_400000_places(self):
        matrix = zeros(625, 640)
        matrix[624][639] = 9
        self.assertEqual(few_full(MUCH, form(matrix)), full_answer(matrix))
        self.assertEqual(few_full(MUCH, form(zeros(626, 640))), [-4])
        self.assertEqual(few_full(MUCH, form(zeros(1, 4096))), [4096] + [0] * 4096)
        self.assertEqual(few_full(MUCH, form(zeros(4096, 2))), [8192] + [0] * 8192)

    def test_most(self):
        for matrix in ([[0]], [[1, 2, 3]], zeros(2, 70), [[1], [0]]):
            expected = full_answer(matrix)
            check_most(self, lambda most: few_full(most, form(matrix)), expected[0], expected)


class Turn(unittest.TestCase):
    def test_one_place(self):
        self.assertEqual(few_turn(12, header(1, 1) + mask()), [12] + header(1, 1) + mask())
        for byte in (1, 127, 128, 255):
            data = header(1, 1) + mask(0) + [byte]
            self.assertEqual(few_turn(13, data), [13] + data)

    def test_a_row_and_a_column(self):
        row = header(1, 3) + mask(0, 2) + [5, 128]
        column = header(3, 1) + mask(0) + [5] + mask() + mask(0) + [128]
        self.assertEqual(few_turn(MUCH, row), [30] + column)
        self.assertEqual(few_turn(MUCH, column), [14] + row)

    def test_columns_as_rows(self):
        self.assertEqual(few_turn(MUCH, form([[1, 2, 3], [4, 5, 6]])), form_answer([[1, 4], [2, 5], [3, 6]]))
        self.assertEqual(few_turn(MUCH, form([[0, 1], [0, 0]])), form_answer([[0, 0], [1, 0]]))

    def test_several_blocks(self):
        data = header(2, 66) + mask(0) + [1] + mask(1) + [2] + mask(63) + [3] + mask()
        expected = header(66, 2) + mask(0) + [1] + mask() * 62 + mask(1) + [3] + mask() + mask(0) + [2]
        self.assertEqual(few_turn(MUCH, data), [len(expected)] + expected)

    def test_many(self):
        for matrix in matrices():
            self.assertEqual(few_turn(MUCH, form(matrix)), form_answer(turned(matrix)))

    def test_most_rows_and_most_columns(self):
        row = [(j * 7) % 256 - 128 for j in range(4096)]
        self.assertEqual(few_turn(MUCH, form([row])), form_answer([[number] for number in row]))
        self.assertEqual(few_turn(MUCH, form([[number] for number in row])), form_answer([row]))

    def test_most(self):
        # A row's form is shorter than its column's: it's what comes out that counts.
        for matrix in ([[0]], [[1, 2, 3]], [[1], [0]], zeros(2, 70), [[1] * 70] * 2):
            expected = form_answer(turned(matrix))
            check_most(self, lambda most: few_turn(most, form(matrix)), expected[0], expected)


class Refused(unittest.TestCase):
    def test_each_kind_of_fault(self):
        for call in (few_full, few_turn):
            for data in broken_forms():
                self.assertEqual(call(MUCH, data), [-2], data)

    def test_more_than_2097152_bytes(self):
        for call in (few_full, few_turn):
            self.assertEqual(call(MUCH, [1] * 2097153), [-1])
            self.assertEqual(call(MUCH, [1] * 2097152), [-2])

    def test_which_goes_first(self):
        for call in (few_full, few_turn):
            for data in broken_forms():
                self.assertEqual(call(-1, data), [-1])
                self.assertEqual(call(2097153, data), [-1])
                self.assertEqual(call(0, data), [-2])
            self.assertEqual(call(0, form([[1]])), [-4])

    def test_unchanged_and_asked_twice(self):
        matrix = [[1, 0, -128], [127, -1, 0]]
        check_call(self, few_full, [6, form(matrix)], full_answer(matrix))
        check_call(self, few_turn, [MUCH, form(matrix)], form_answer(turned(matrix)))
        for call in (few_full, few_turn):
            check_call(self, call, [5, form(matrix)], [-4])
            check_call(self, call, [5, form(matrix)[:-1]], [-2])
            check_call(self, call, [-5, form(matrix)], [-1])


if __name__ == "__main__":
    unittest.main()
