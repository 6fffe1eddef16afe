import unittest

from goingon.few import few_check

from helper import form, header, little, mask, zeros


class Matrices(unittest.TestCase):
    def test_one_place(self):
        self.assertEqual(few_check([1, 0, 1, 0, 0, 0, 0, 0, 0, 0, 0, 0]), [0, 1, 1, 0])
        self.assertEqual(few_check([1, 0, 1, 0, 1, 0, 0, 0, 0, 0, 0, 0, 1]), [0, 1, 1, 1])

    def test_numbers_at_their_ends(self):
        for number in (1, 127, 128, 255):
            self.assertEqual(few_check(header(1, 1) + mask(0) + [number]), [0, 1, 1, 1])

    def test_rows_and_columns_are_told_apart(self):
        self.assertEqual(few_check(form([[1, 0, -1], [0, 0, 5]])), [0, 2, 3, 3])
        self.assertEqual(few_check(form([[1, 0], [0, 0], [-1, 5]])), [0, 3, 2, 3])

    def test_a_block_of_64_columns_and_one_more(self):
        for columns in (63, 64, 65, 127, 128, 129):
            row = [1] * columns
            self.assertEqual(few_check(form([row])), [0, 1, columns, columns])
            self.assertEqual(few_check(form([row, [0] * columns])), [0, 2, columns, columns])

    def test_several_blocks(self):
        matrix = zeros(3, 130)
        for i, j in ((0, 0), (0, 63), (0, 64), (1, 127), (1, 128), (2, 129)):
            matrix[i][j] = -1 - j % 5
        data = form(matrix)
        self.assertEqual(len(data), 4 + 3 * 3 * 8 + 6)
        self.assertEqual(few_check(data), [0, 3, 130, 6])

    def test_a_full_mask(self):
        self.assertEqual(few_check(header(1, 64) + [255] * 8 + [1] * 64), [0, 1, 64, 64])

    def test_most_rows_and_most_columns(self):
        self.assertEqual(few_check(header(4096, 1) + mask() * 4096), [0, 4096, 1, 0])
        self.assertEqual(few_check(header(1, 4096) + ([255] * 8 + [7] * 64) * 64), [0, 1, 4096, 4096])

    def test_numbers_of_two_bytes_have_the_lowest_first(self):
        self.assertEqual(few_check([1, 1, 2, 0] + mask() * 257), [0, 257, 2, 0])
        self.assertEqual(few_check([2, 0, 1, 1] + mask() * 10), [0, 2, 257, 0])


class TheBytesEnd(unittest.TestCase):
    def test_no_bytes(self):
        self.assertEqual(few_check([]), [-2, 0, 1])

    def test_wherever_they_end(self):
        matrix = zeros(2, 70)
        matrix[0][3] = 5
        matrix[0][69] = -5
        matrix[1][64] = 9
        matrix[1][65] = 8
        data = form(matrix)
        self.assertEqual(few_check(data), [0, 2, 70, 4])
        for end in range(len(data)):
            self.assertEqual(few_check(data[:end]), [-2, end, 1])

    def test_most_places_are_not_too_many(self):
        for rows, columns in ((4096, 256), (256, 4096), (1024, 1024)):
            self.assertEqual(few_check(header(rows, columns)), [-2, 4, 1])


class OutOfRange(unittest.TestCase):
    def test_rows(self):
        for rows in (0, 4097, 65535):
            self.assertEqual(few_check(header(rows, 1) + mask()), [-2, 0, 2])
            self.assertEqual(few_check(little(rows, 2)), [-2, 0, 2])

    def test_columns(self):
        for columns in (0, 4097, 65535):
            self.assertEqual(few_check(header(1, columns) + mask()), [-2, 2, 2])
            self.assertEqual(few_check(header(1, columns)), [-2, 2, 2])

    def test_too_many_places(self):
        for rows, columns in ((4096, 257), (257, 4096), (1024, 1025), (1025, 1024), (4096, 4096)):
            self.assertEqual(few_check(header(rows, columns)), [-2, 2, 2])
            self.assertEqual(few_check(header(rows, columns) + [0] * 4000), [-2, 2, 2])


class AZeroWrittenDown(unittest.TestCase):
    def test_where_it_stands(self):
        data = header(2, 66) + mask(0, 1, 2) + [1, 2, 3] + mask(1) + [4] + mask(63) + [5] + mask(0) + [6]
        self.assertEqual(few_check(data), [0, 2, 66, 6])
        for place in (12, 13, 14, 23, 32, 41):
            broken = list(data)
            self.assertNotEqual(broken[place], 0)
            broken[place] = 0
            self.assertEqual(few_check(broken), [-2, place, 3])

    def test_the_first_of_two(self):
        self.assertEqual(few_check(header(1, 3) + mask(0, 1, 2) + [1, 0, 0]), [-2, 13, 3])


class AMaskWithABitTooMany(unittest.TestCase):
    def test_in_a_first_a_middle_and_a_last_row(self):
        for row in range(3):
            masks = [mask(0), mask(), mask(1)]
            masks[row] = mask(2)
            data = header(3, 2)
            place = 0
            for number, part in enumerate(masks):
                if number == row:
                    place = len(data)
                data += part + [1] * sum(byte.bit_count() for byte in part)
            self.assertEqual(few_check(data), [-2, place, 4])

    def test_every_bit_that_has_no_column(self):
        for columns in (1, 2, 8, 63):
            for bit in range(64):
                asked = few_check(header(1, columns) + mask(bit) + [1])
                self.assertEqual(asked, [0, 1, columns, 1] if bit < columns else [-2, 4, 4])

    def test_in_a_last_block(self):
        front = header(1, 130) + mask(63) + [1] + mask(0) + [2]
        self.assertEqual(few_check(front + mask(0, 1) + [3, 4]), [0, 1, 130, 4])
        self.assertEqual(few_check(front + mask(1, 2) + [3, 4]), [-2, 22, 4])


class BytesLeftOver(unittest.TestCase):
    def test_where_they_begin(self):
        data = form([[1, 2], [0, 3]])
        for more in ([0], [1], [255] * 9):
            self.assertEqual(few_check(data + more), [-2, len(data), 5])

    def test_behind_zeros_alone(self):
        self.assertEqual(few_check(header(1, 1) + mask() + [0]), [-2, 12, 5])


class HowManyBytes(unittest.TestCase):
    def test_more_than_2097152(self):
        self.assertEqual(few_check([0] * 2097153), [-1])
        self.assertEqual(few_check([0] * 2097152), [-2, 0, 2])


class TheFirstFromTheFront(unittest.TestCase):
    def test_rows_ahead_of_columns(self):
        self.assertEqual(few_check(header(0, 0)), [-2, 0, 2])
        self.assertEqual(few_check(header(4097, 4097)), [-2, 0, 2])

    def test_a_zero_ahead_of_the_end(self):
        self.assertEqual(few_check(header(1, 3) + mask(0, 1, 2) + [1, 0]), [-2, 13, 3])
        self.assertEqual(few_check(header(1, 3) + mask(0, 1, 2) + [0]), [-2, 12, 3])

    def test_a_mask_ahead_of_the_end(self):
        self.assertEqual(few_check(header(1, 3) + mask(0, 1, 3)), [-2, 4, 4])

    def test_a_mask_ahead_of_a_zero_and_a_zero_ahead_of_a_mask(self):
        self.assertEqual(few_check(header(2, 1) + mask(0, 1) + [0, 0] + mask()), [-2, 4, 4])
        self.assertEqual(few_check(header(2, 1) + mask(0) + [0] + mask(1) + [1]), [-2, 12, 3])

    def test_a_zero_ahead_of_bytes_left_over(self):
        self.assertEqual(few_check(header(1, 1) + mask(0) + [0, 1, 1]), [-2, 12, 3])

    def test_a_mask_ahead_of_bytes_left_over(self):
        self.assertEqual(few_check(header(1, 1) + mask(5) + [1, 1, 1]), [-2, 4, 4])


if __name__ == "__main__":
    unittest.main()
