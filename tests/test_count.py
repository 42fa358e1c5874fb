"""Point 6: sq_count."""

import unittest

from tests.helper import blank, boxes, cells, count, cyclic, drawn, give, last, load, put, rows_as_regions, run, told

LOWEST = -2147483648
HIGHEST = 2147483647

HARD = drawn(
    "8........", "..36.....", ".7..9.2..", ".5...7...", "....457..", "...1...3.", "..1....68", "..85...1.", ".9....4..",
)


class CountTest(unittest.TestCase):
    def test_latin_squares(self):
        # With the rows as regions, all latin squares are fillings.
        for n, many in ((2, 2), (3, 12), (4, 576), (5, 161280), (6, 1000000), (9, 1000000)):
            with self.subTest(n=n):
                self.assertEqual(last(put(n, 0, rows_as_regions(n)), count()), [many])

    def test_boxes(self):
        self.assertEqual(last(put(4, 0, boxes(4, 2, 2)), count()), [288])
        self.assertEqual(last(put(6, 0, boxes(6, 2, 3)), count()), [1000000])
        self.assertEqual(last(put(9, 0, boxes(9, 3, 3)), count()), [1000000])

    def test_diagonals(self):
        for n, many in ((2, 0), (3, 0), (4, 48), (5, 960), (6, 92160)):
            with self.subTest(n=n):
                self.assertEqual(last(put(n, 1, rows_as_regions(n)), count()), [many])
        self.assertEqual(last(put(9, 1, boxes(9, 3, 3)), count()), [1000000])

    def test_regions_whose_cells_do_not_lie_together(self):
        # A filling and such regions are a pair of orthogonal latin squares: none for 6.
        for n, many in ((2, 0), (3, 6), (4, 0), (5, 360), (6, 0), (7, 1000000)):
            with self.subTest(n=n):
                self.assertEqual(last(put(n, 0, cyclic(n)), count()), [many])

    def test_two_cells_that_changed_their_regions(self):
        # The cells would have to have the same digit, but they stand in one row, or in one column.
        for n in (5, 8, 9):
            region = rows_as_regions(n)
            region[1] = n - 1
            region[n * n - n + 1] = 0
            with self.subTest(n=n):
                self.assertEqual(last(put(n, 0, region), count()), [0])

    def test_none_one_few(self):
        square = put(4, 0, boxes(4, 2, 2))
        none = drawn("12..", "..3.", "....", "...4")
        few = drawn("1234", "34..", "....", "....")
        one = drawn("1...", "..3.", ".4..", "...2")
        for made, many in ((none, 0), (one, 1), (few, 6)):
            with self.subTest(many=many):
                self.assertEqual(last(square, load(made), count()), [many])

    def test_all_given(self):
        full = drawn("1234", "3412", "2143", "4321")
        for most in (1, 2, 1000000):
            self.assertEqual(last(put(4, 0, boxes(4, 2, 2)), load(full), count(most)), [1])

    def test_a_square_that_singles_do_not_fill(self):
        self.assertEqual(last(put(9, 0, boxes(9, 3, 3)), load(HARD), count()), [1])

    def test_most(self):
        square = put(4, 0, boxes(4, 2, 2))
        for most, answer in (
            (LOWEST, -1),
            (-1, -1),
            (0, -1),
            (1, 1),
            (2, 2),
            (3, 3),
            (100, 100),
            (287, 287),
            (288, 288),
            (289, 288),
            (999999, 288),
            (1000000, 288),
            (1000001, -1),
            (HIGHEST, -1),
        ):
            with self.subTest(most=most):
                self.assertEqual(last(square, count(most)), [answer])

    def test_most_where_there_is_none(self):
        square = put(2, 1, [0, 0, 1, 1])
        self.assertEqual(run(square, count(0), count(1), count(1000000), count(1000001)), [[0], [-1], [0], [0], [-1]])

    def test_fewer_asked_for_first(self):
        # What was counted in part is no count for those who ask for more.
        square = put(5, 0, rows_as_regions(5))
        self.assertEqual(
            run(square, count(1), count(7), count(1000), count(), count(1000), count(1), count(161280), count(161279)),
            [[0], [1], [7], [1000], [161280], [1000], [1], [161280], [161279]],
        )

    def test_what_is_given_counts_each_time(self):
        square = put(4, 0, boxes(4, 2, 2))
        made = load(blank(4, r1c1=1, r2c2=2))
        self.assertEqual(
            run(square, count(), give(1, 1, 3), count(), give(1, 1, 0), count(), made, count()),
            [[0], [288], [0], [72], [0], [288], [0], [24]],
        )

    def test_nothing_changes(self):
        made = blank(4, r1c1=1, r2c2=2)
        square = put(4, 0, boxes(4, 2, 2))
        for most in (0, 1, 10, 1000000, 1000001):
            with self.subTest(most=most):
                self.assertEqual(last(square, load(made), count(most), cells()), told(made))


if __name__ == "__main__":
    unittest.main()
