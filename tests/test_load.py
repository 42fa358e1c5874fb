"""Point 3: sq_load."""

import unittest

from tests.helper import blank, boxes, cells, give, load, put, rows_as_regions, run, told

FULL = [1, 2, 3, 4, 3, 4, 1, 2, 2, 1, 4, 3, 4, 3, 2, 1]


def loaded(square, made):
    """What sq_load and a sq_cells behind it answer."""
    return run(square, load(made), cells())[1:]


def linked(n, diagonals, region, first, second):
    if region[first] == region[second]:
        return True
    row, column = divmod(first, n)
    other_row, other_column = divmod(second, n)
    if row == other_row or column == other_column:
        return True
    if diagonals == 0:
        return False
    falling = row == column and other_row == other_column
    rising = row + column == n - 1 and other_row + other_column == n - 1
    return falling or rising


class LoadTest(unittest.TestCase):
    def setUp(self):
        self.plain = put(4, 0, boxes(4, 2, 2))
        self.crossed = put(4, 1, boxes(4, 2, 2))

    def test_ordinary(self):
        made = blank(4, r1c1=1, r1c4=4, r3c2=1, r4c3=2)
        self.assertEqual(loaded(self.plain, made), [[0], told(made)])

    def test_nothing_given(self):
        self.assertEqual(loaded(self.plain, [0] * 16), [[0], told([0] * 16)])

    def test_all_given(self):
        self.assertEqual(loaded(self.plain, FULL), [[0], told(FULL)])

    def test_smallest_and_largest_square(self):
        self.assertEqual(loaded(put(2, 0, rows_as_regions(2)), [1, 2, 2, 1]), [[0], told([1, 2, 2, 1])])
        made = [(row * 3 + row // 3 + column) % 9 + 1 for row in range(9) for column in range(9)]
        self.assertEqual(loaded(put(9, 0, boxes(9, 3, 3)), made), [[0], told(made)])

    def test_no_filling_is_no_reason_to_refuse(self):
        made = blank(4, r1c1=1, r1c2=2, r1c3=3, r2c4=4)
        self.assertEqual(loaded(self.plain, made), [[0], told(made)])

    def test_count_is_not_n_n(self):
        for count in (0, 1, 4, 9, 15, 17, 25, 80, 81):
            with self.subTest(count=count):
                self.assertEqual(loaded(self.plain, [0] * count), [[-1], told([0] * 16)])

    def test_count_beside_81(self):
        square = put(9, 0, boxes(9, 3, 3))
        self.assertEqual(loaded(square, [0] * 80)[0], [-1])
        self.assertEqual(loaded(square, [0] * 81)[0], [0])

    def test_cell_at_n_and_above(self):
        for n in range(2, 10):
            for place in (0, n, n * n - 1):
                made = [0] * (n * n)
                for digit, answer in ((n, 0), (n + 1, -1), (n + 2, -1), (128, -1), (255, -1)):
                    with self.subTest(n=n, place=place, digit=digit):
                        made[place] = digit
                        self.assertEqual(loaded(put(n, 0, rows_as_regions(n)), made)[0], [answer])

    def test_cell_above_n_comes_before_a_digit_twice(self):
        self.assertEqual(loaded(self.plain, blank(4, r1c1=1, r1c2=1, r4c4=5))[0], [-1])
        self.assertEqual(loaded(self.plain, blank(4, r1c1=5, r1c2=5))[0], [-1])


class TwiceTest(unittest.TestCase):
    def assert_twice(self, square, made):
        with self.subTest(square=square, made=made):
            self.assertEqual(loaded(square, made), [[-2], told([0] * len(made))])

    def assert_good(self, square, made):
        with self.subTest(square=square, made=made):
            self.assertEqual(loaded(square, made), [[0], told(made)])

    def test_in_each_row_and_column(self):
        # Regions along the one leave the other to be checked for itself.
        along_rows = put(4, 0, rows_as_regions(4))
        along_columns = put(4, 0, [cell % 4 for cell in range(16)])
        for line in range(4):
            for other in range(1, 4):
                in_row = [0] * 16
                in_row[line * 4] = 2
                in_row[line * 4 + other] = 2
                self.assert_twice(along_columns, in_row)
                in_column = [0] * 16
                in_column[line] = 2
                in_column[line + other * 4] = 2
                self.assert_twice(along_rows, in_column)

    def test_in_each_region(self):
        square = put(4, 0, boxes(4, 2, 2))
        for corner in (0, 2, 8, 10):
            for first, second in ((corner, corner + 5), (corner + 1, corner + 4)):
                made = [0] * 16
                made[first] = 4
                made[second] = 4
                self.assert_twice(square, made)
                self.assert_good(put(4, 0, rows_as_regions(4)), made)

    def test_on_each_diagonal(self):
        for n in range(2, 10):
            counting = put(n, 1, rows_as_regions(n))
            not_counting = put(n, 0, rows_as_regions(n))
            for first, second in ((0, n - 1), (0, 1), (n - 2, n - 1)):
                falling = [0] * (n * n)
                rising = [0] * (n * n)
                for row in (first, second):
                    falling[row * n + row] = n
                    rising[row * n + n - 1 - row] = n
                for made in (falling, rising):
                    self.assert_twice(counting, made)
                    self.assert_good(not_counting, made)

    def test_cells_beside_the_diagonals(self):
        counting = put(5, 1, rows_as_regions(5))
        self.assert_good(counting, blank(5, r1c2=1, r2c3=1, r3c4=1, r4c5=1, r5c1=1))
        self.assert_good(counting, blank(5, r1c1=2, r5c2=2, r2c5=2, r4c3=2))

    def test_the_middle_is_on_both_diagonals_but_one_cell(self):
        counting = put(5, 1, rows_as_regions(5))
        self.assert_good(counting, blank(5, r3c3=1))
        self.assert_twice(counting, blank(5, r3c3=1, r1c1=1))
        self.assert_twice(counting, blank(5, r3c3=1, r1c5=1))

    def test_every_pair_of_cells(self):
        strewn = [(row + 2 * column) % 5 for row in range(5) for column in range(5)]
        for n, region in ((2, rows_as_regions(2)), (3, [0, 0, 1, 0, 1, 1, 2, 2, 2]), (4, boxes(4, 2, 2)),
                          (5, strewn), (6, boxes(6, 2, 3)), (9, boxes(9, 3, 3))):
            for diagonals in (0, 1):
                square = put(n, diagonals, region)
                for second in range(n * n):
                    pairs = [[n if cell in (first, second) else 0 for cell in range(n * n)] for first in range(second)]
                    expected = [[-2 if linked(n, diagonals, region, first, second) else 0] for first in range(second)]
                    self.assertEqual(run(square, *[load(made) for made in pairs])[1:], expected)

    def test_highest_digit_and_all_of_one(self):
        self.assert_twice(put(9, 0, boxes(9, 3, 3)), blank(9, r9c8=9, r9c9=9))
        self.assert_twice(put(9, 0, boxes(9, 3, 3)), [1] * 81)


class WhatIsLeftTest(unittest.TestCase):
    def test_refused_load_changes_nothing(self):
        had = blank(4, r1c1=1, r2c3=1)
        for refused, answer in (
            ([], -1),
            ([0] * 15, -1),
            ([0] * 17, -1),
            (blank(4, r4c4=5), -1),
            (blank(4, r1c3=3, r1c4=3), -2),
        ):
            with self.subTest(refused=refused):
                self.assertEqual(
                    run(put(4, 0, boxes(4, 2, 2)), load(had), load(refused), cells(), give(2, 2, 1)),
                    [[0], [0], [answer], told(had), [-2]],
                )

    def test_load_replaces_all_that_was_given(self):
        made = blank(4, r4c4=1, r1c3=1)
        self.assertEqual(
            run(put(4, 0, boxes(4, 2, 2)), give(1, 1, 1), load(blank(4, r2c2=3)), load(made), cells(),
                load([0] * 16), cells())[2:],
            [[0], [0], told(made), [0], told([0] * 16)],
        )


if __name__ == "__main__":
    unittest.main()
