import random
import unittest

from goingon.few import few_pick, few_thin

from helper import broken_forms, check_call, check_most, form, form_answer, header, mask, some_matrix, zeros

MUCH = 400000


def pick(matrix, rows, most=MUCH):
    return few_pick(most, form(matrix), rows)


def thin(matrix, t, most=MUCH):
    return few_thin(t, most, form(matrix))


def plain_thin(matrix, t):
    return [[0 if -t < number < t else number for number in row] for row in matrix]


class Pick(unittest.TestCase):
    def test_one_row(self):
        self.assertEqual(pick([[5]], [0]), [13] + header(1, 1) + mask(0) + [5])
        self.assertEqual(pick([[5], [0], [-6]], [2]), [13] + header(1, 1) + mask(0) + [250])
        self.assertEqual(pick([[5], [0], [-6]], [1]), [12] + header(1, 1) + mask())

    def test_another_order(self):
        matrix = [[1, 2], [0, 3], [-4, 0]]
        self.assertEqual(pick(matrix, [2, 0]), form_answer([[-4, 0], [1, 2]]))
        self.assertEqual(pick(matrix, [2, 1, 0]), form_answer([[-4, 0], [0, 3], [1, 2]]))
        self.assertEqual(pick(matrix, [0, 1, 2]), form_answer(matrix))

    def test_more_than_once(self):
        matrix = [[1, 2], [0, 3]]
        self.assertEqual(pick(matrix, [1, 0, 1, 1]), form_answer([[0, 3], [1, 2], [0, 3], [0, 3]]))
        self.assertEqual(pick([[-128]], [0] * 4096), form_answer([[-128]] * 4096))

    def test_several_blocks(self):
        source = random.Random(41)
        for columns in (63, 64, 65, 128, 130, 200):
            matrix = some_matrix(source, 5, columns, 0.4)
            self.assertEqual(pick(matrix, [4, 0, 4, 2]), form_answer([matrix[i] for i in (4, 0, 4, 2)]))

    def test_many(self):
        source = random.Random(42)
        for time in range(40):
            rows, columns = source.randint(1, 30), source.randint(1, 150)
            matrix = some_matrix(source, rows, columns, source.choice((0.05, 0.5, 1)))
            chosen = [source.randrange(rows) for k in range(source.randint(1, 50))]
            self.assertEqual(pick(matrix, chosen), form_answer([matrix[i] for i in chosen]))

    def test_all_of_4096_rows(self):
        matrix = [[i % 256 - 128] for i in range(4096)]
        self.assertEqual(pick(matrix, list(range(4096))), form_answer(matrix))
        self.assertEqual(pick(matrix, list(reversed(range(4096)))), form_answer(matrix[::-1]))

    def test_the_last_row_and_one_beyond(self):
        for rows in (1, 2, 3, 65, 4096):
            matrix = [[1]] * rows
            self.assertEqual(pick(matrix, [rows - 1]), form_answer([[1]]))
            for beyond in (rows, rows + 1, 65535):
                for chosen in ([beyond], [0, beyond], [beyond, 0], [0, beyond, rows - 1]):
                    self.assertEqual(pick(matrix, chosen), [-3])

    def test_no_number_at_all_and_too_many(self):
        self.assertEqual(pick([[1]], []), [-1])
        self.assertEqual(pick([[1]], [0] * 4097), [-1])

    def test_too_many_places(self):
        for columns, most_rows in ((256, 4096), (512, 2048), (4096, 256), (1000, 1048)):
            self.assertEqual(pick(zeros(1, columns), [0] * most_rows)[:5],
                             [4 + 8 * most_rows * ((columns + 63) // 64)] + header(most_rows, columns))
            if most_rows < 4096:
                self.assertEqual(pick(zeros(1, columns), [0] * (most_rows + 1)), [-3])
        self.assertEqual(pick(zeros(1, 257), [0] * 4096), [-3])
        self.assertEqual(pick(zeros(1, 4096), [0] * 4096), [-3])

    def test_which_goes_first(self):
        for data in broken_forms():
            self.assertEqual(few_pick(MUCH, data, []), [-1])
            self.assertEqual(few_pick(MUCH, data, [0] * 4097), [-1])
            self.assertEqual(few_pick(-1, data, [65535]), [-1])
            self.assertEqual(few_pick(2097153, data, [65535]), [-1])
            self.assertEqual(few_pick(0, data, [65535]), [-2])
        for most in (-1, 2097153):
            self.assertEqual(pick([[1]], [1], most), [-1])
        self.assertEqual(pick([[1]], [], 0), [-1])
        self.assertEqual(pick([[1]], [1], 0), [-3])
        self.assertEqual(pick(zeros(1, 4096), [0] * 257, 0), [-3])
        self.assertEqual(pick([[1]], [0], 0), [-4])

    def test_most(self):
        for matrix, chosen in (([[0]], [0]), ([[1, 2], [0, 0]], [0, 0]), ([[1, 2], [0, 0]], [1, 1]), ([[1] * 70], [0])):
            expected = form_answer([matrix[i] for i in chosen])
            check_most(self, lambda most: pick(matrix, chosen, most), expected[0], expected)

    def test_unchanged_and_asked_twice(self):
        data = form([[1, 0, -128], [127, -1, 0]])
        check_call(self, few_pick, [MUCH, data, [1, 0, 1]], form_answer([[127, -1, 0], [1, 0, -128], [127, -1, 0]]))
        check_call(self, few_pick, [MUCH, data, []], [-1])
        check_call(self, few_pick, [MUCH, data[:-1], [0]], [-2])
        check_call(self, few_pick, [MUCH, data, [2]], [-3])
        check_call(self, few_pick, [13, data, [0]], [-4])


class Thin(unittest.TestCase):
    row = [-128, -127, -126, -2, -1, 0, 1, 2, 126, 127]

    def check(self, t, expected):
        self.assertEqual(thin([self.row], t), form_answer([expected]))

    def test_t_of_0_and_1(self):
        self.check(0, self.row)
        self.check(1, self.row)

    def test_just_as_near_as_t(self):
        self.check(2, [-128, -127, -126, -2, 0, 0, 0, 2, 126, 127])
        self.check(3, [-128, -127, -126, 0, 0, 0, 0, 0, 126, 127])
        self.check(126, [-128, -127, -126, 0, 0, 0, 0, 0, 126, 127])

    def test_t_of_127_and_128(self):
        self.check(127, [-128, -127, 0, 0, 0, 0, 0, 0, 0, 127])
        self.check(128, [-128, 0, 0, 0, 0, 0, 0, 0, 0, 0])

    def test_t_past_its_edges(self):
        for t in (-1, -128, 129, 130, 255, 256, -2147483648, 2147483647):
            self.assertEqual(thin([self.row], t), [-1])

    def test_one_place(self):
        self.assertEqual(thin([[5]], 5), [13] + header(1, 1) + mask(0) + [5])
        self.assertEqual(thin([[5]], 6), [12] + header(1, 1) + mask())
        self.assertEqual(thin([[-5]], 5), [13] + header(1, 1) + mask(0) + [251])
        self.assertEqual(thin([[-5]], 6), [12] + header(1, 1) + mask())
        self.assertEqual(thin([[0]], 0), [12] + header(1, 1) + mask())

    def test_many(self):
        source = random.Random(43)
        for rows, columns in ((1, 1), (5, 1), (1, 5), (3, 64), (2, 65), (65, 65), (2, 200), (4096, 2), (2, 4096)):
            for share in (0.1, 1):
                matrix = some_matrix(source, rows, columns, share)
                t = source.randint(0, 128)
                self.assertEqual(thin(matrix, t), form_answer(plain_thin(matrix, t)))

    def test_which_goes_first(self):
        for data in broken_forms():
            for t, most in ((-1, 99), (129, 99), (5, -1), (5, 2097153), (129, -1)):
                self.assertEqual(few_thin(t, most, data), [-1])
            self.assertEqual(few_thin(5, 0, data), [-2])
        self.assertEqual(thin([[1]], 129, 0), [-1])
        self.assertEqual(thin([[1]], 128, 0), [-4])

    def test_most(self):
        for matrix, t in (([[0]], 1), ([[1, 2], [0, 0]], 2), ([[1, 2], [0, 0]], 1), ([[9] * 70], 10), ([[9] * 70], 9)):
            expected = form_answer(plain_thin(matrix, t))
            check_most(self, lambda most: thin(matrix, t, most), expected[0], expected)

    def test_unchanged_and_asked_twice(self):
        data = form([[1, 0, -128], [127, -1, 0]])
        check_call(self, few_thin, [2, MUCH, data], form_answer([[0, 0, -128], [127, 0, 0]]))
        check_call(self, few_thin, [129, MUCH, data], [-1])
        check_call(self, few_thin, [2, MUCH, data + [7]], [-2])
        check_call(self, few_thin, [2, 21, data], [-4])


class Forms(unittest.TestCase):
    def test_each_kind_of_fault(self):
        for data in broken_forms():
            self.assertEqual(few_pick(MUCH, data, [0]), [-2])
            self.assertEqual(few_thin(0, MUCH, data), [-2])

    def test_more_than_2097152_bytes(self):
        self.assertEqual(few_pick(MUCH, [1] * 2097153, [0]), [-1])
        self.assertEqual(few_pick(MUCH, [1] * 2097152, [0]), [-2])
        self.assertEqual(few_thin(0, MUCH, [1] * 2097153), [-1])
        self.assertEqual(few_thin(0, MUCH, [1] * 2097152), [-2])


if __name__ == "__main__":
    unittest.main()
