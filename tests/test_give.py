"""Point 4: sq_give."""

import unittest

from tests.helper import blank, boxes, cells, give, load, put, rows_as_regions, run, told

LOWEST = -2147483648
HIGHEST = 2147483647


class GiveTest(unittest.TestCase):
    def setUp(self):
        self.plain = put(4, 0, boxes(4, 2, 2))

    def test_every_cell_and_digit(self):
        for n in (2, 4, 9):
            square = put(n, 0, rows_as_regions(n))
            for row in range(1, n + 1):
                for column in range(1, n + 1):
                    for digit in range(1, n + 1):
                        made = [0] * (n * n)
                        made[(row - 1) * n + column - 1] = digit
                        self.assertEqual(run(square, give(row, column, digit), cells())[1:], [[0], told(made)])

    def test_some_one_behind_another(self):
        self.assertEqual(
            run(self.plain, give(1, 2, 3), give(4, 1, 3), give(2, 4, 1), cells())[1:],
            [[0], [0], [0], told(blank(4, r1c2=3, r4c1=3, r2c4=1))],
        )

    def test_just_outside_and_far_out(self):
        had = blank(4, r1c1=1, r4c4=1)
        for outside in (-1, 5, 6, 256, LOWEST, HIGHEST):
            for place in ((outside, 2, 3), (2, outside, 3), (2, 3, outside)):
                with self.subTest(place=place):
                    self.assertEqual(
                        run(self.plain, load(had), give(*place), cells())[2:], [[-1], told(had)]
                    )

    def test_row_0_and_column_0(self):
        for digit in range(5):
            self.assertEqual(run(self.plain, give(0, 1, digit), cells())[1:], [[-1], told([0] * 16)])
            self.assertEqual(run(self.plain, give(1, 0, digit), cells())[1:], [[-1], told([0] * 16)])

    def test_ends_go_with_n(self):
        square = put(9, 0, boxes(9, 3, 3))
        self.assertEqual(run(square, give(9, 9, 9), cells())[1:], [[0], told(blank(9, r9c9=9))])
        for place in ((10, 9, 9), (9, 10, 9), (9, 9, 10)):
            self.assertEqual(run(square, give(*place))[1:], [[-1]])
        square = put(2, 0, rows_as_regions(2))
        self.assertEqual(run(square, give(2, 2, 2), cells())[1:], [[0], told(blank(2, r2c2=2))])
        for place in ((3, 2, 2), (2, 3, 2), (2, 2, 3)):
            self.assertEqual(run(square, give(*place))[1:], [[-1]])

    def test_digit_0_takes_away(self):
        self.assertEqual(
            run(self.plain, load(blank(4, r1c1=1, r4c4=1)), give(4, 4, 0), cells(), give(4, 3, 1))[2:],
            [[0], told(blank(4, r1c1=1)), [0]],
        )

    def test_digit_0_where_nothing_is_given(self):
        had = blank(4, r1c1=1)
        self.assertEqual(run(self.plain, load(had), give(1, 2, 0), cells())[2:], [[0], told(had)])

    def test_another_digit_at_a_cell_that_has_one(self):
        self.assertEqual(
            run(self.plain, give(2, 3, 1), give(2, 3, 4), cells(), give(2, 4, 1))[2:],
            [[0], told(blank(4, r2c3=4)), [0]],
        )

    def test_the_same_digit_again(self):
        self.assertEqual(
            run(self.plain, give(2, 3, 1), give(2, 3, 1), cells())[2:], [[0], told(blank(4, r2c3=1))]
        )

    def test_the_same_digit_again_on_both_diagonals(self):
        square = put(5, 1, rows_as_regions(5))
        self.assertEqual(run(square, give(3, 3, 1), give(3, 3, 1))[1:], [[0], [0]])


class TwiceTest(unittest.TestCase):
    def assert_second(self, square, first, second, answer):
        """Both orders of giving one digit to two cells."""
        for here, there in ((first, second), (second, first)):
            with self.subTest(square=square, here=here, there=there):
                told_two = run(square, give(*here, 2), give(*there, 2), cells(), give(*there, 1))
                self.assertEqual(told_two[1:3], [[0], [answer]])
                self.assertEqual(told_two[3].count(2), 2 if answer == 0 else 1)
                self.assertEqual(told_two[4], [0])

    def test_row(self):
        along_columns = put(4, 0, [cell % 4 for cell in range(16)])
        for row in range(1, 5):
            self.assert_second(along_columns, (row, 1), (row, 4), -2)
            self.assert_second(along_columns, (row, 2), (row, 3), -2)

    def test_column(self):
        along_rows = put(4, 0, rows_as_regions(4))
        for column in range(1, 5):
            self.assert_second(along_rows, (1, column), (4, column), -2)
            self.assert_second(along_rows, (2, column), (3, column), -2)

    def test_region(self):
        boxed = put(4, 0, boxes(4, 2, 2))
        along_rows = put(4, 0, rows_as_regions(4))
        for row, column in ((1, 1), (1, 3), (3, 1), (3, 3)):
            for square, answer in ((boxed, -2), (along_rows, 0)):
                self.assert_second(square, (row, column), (row + 1, column + 1), answer)
                self.assert_second(square, (row, column + 1), (row + 1, column), answer)

    def test_diagonals(self):
        for diagonals, answer in ((1, -2), (0, 0)):
            square = put(4, diagonals, boxes(4, 2, 2))
            self.assert_second(square, (1, 1), (4, 4), answer)
            self.assert_second(square, (2, 2), (3, 3), answer)
            self.assert_second(square, (1, 4), (4, 1), answer)
            self.assert_second(square, (2, 3), (3, 2), answer)

    def test_refused_give_leaves_the_digit_that_was_there(self):
        had = blank(4, r1c1=1, r1c4=2)
        self.assertEqual(
            run(put(4, 0, boxes(4, 2, 2)), load(had), give(1, 4, 1), cells(), give(2, 3, 2), give(2, 3, 1))[2:],
            [[-2], told(had), [-2], [0]],
        )


if __name__ == "__main__":
    unittest.main()
