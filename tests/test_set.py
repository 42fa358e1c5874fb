"""Point 2: sq_set."""

import unittest

from squaresteps.square import can_be_square
from tests.helper import blank, boxes, cells, give, last, load, put, rows_as_regions, run, told

LOWEST = -2147483648
HIGHEST = 2147483647


class SizeTest(unittest.TestCase):
    def test_each_n(self):
        for n in range(2, 10):
            for diagonals in (0, 1):
                with self.subTest(n=n, diagonals=diagonals):
                    self.assertEqual(
                        run(put(n, diagonals, rows_as_regions(n)), cells()),
                        [[0], told([0] * (n * n))],
                    )

    def test_n_outside(self):
        for n in (1, 10, 0, -1, -2, -9, 11, 255, 256, LOWEST, HIGHEST):
            for diagonals in (0, 1, 2):
                with self.subTest(n=n, diagonals=diagonals):
                    self.assertEqual(run(put(n, diagonals, []), cells()), [[-1], [-4]])

    def test_diagonals_outside(self):
        for diagonals in (2, -1, 3, 255, 256, LOWEST, HIGHEST):
            for n in (2, 4, 9):
                with self.subTest(n=n, diagonals=diagonals):
                    self.assertEqual(run(put(n, diagonals, []), cells()), [[-1], [-4]])


class SoundTest(unittest.TestCase):
    """Each part is checked for itself, whatever the others are."""

    def test_n_with_a_region_of_its_size(self):
        for n, sound in ((1, False), (2, True), (9, True), (10, False)):
            self.assertEqual(can_be_square(n, 0, rows_as_regions(n)), sound)

    def test_diagonals_with_a_region(self):
        for diagonals, sound in ((-1, False), (0, True), (1, True), (2, False)):
            self.assertEqual(can_be_square(4, diagonals, boxes(4, 2, 2)), sound)

    def test_region_of_another_size(self):
        for region in ([], [0, 0, 1], [0, 0, 1, 1, 2]):
            self.assertFalse(can_be_square(2, 0, region))


class RegionTest(unittest.TestCase):
    def test_region_number_at_its_end(self):
        self.assertEqual(last(put(2, 0, [1, 0, 0, 1])), [0])
        self.assertEqual(last(put(9, 0, boxes(9, 3, 3))), [0])

    def test_region_number_of_n_or_more(self):
        for number in (4, 5, 128, 254, 255):
            for place in (0, 7, 15):
                with self.subTest(number=number, place=place):
                    region = boxes(4, 2, 2)
                    region[place] = number
                    self.assertEqual(run(put(4, 0, region), cells()), [[-1], [-4]])

    def test_all_regions_counted_from_1(self):
        region = [number + 1 for number in boxes(4, 2, 2)]
        self.assertEqual(last(put(4, 0, region)), [-1])

    def test_one_whole_region_with_a_number_of_n(self):
        for number in range(9):
            with self.subTest(number=number):
                region = [9 if had == number else had for had in boxes(9, 3, 3)]
                self.assertEqual(last(put(9, 0, region)), [-1])

    def test_too_many_in_one_region_too_few_in_another(self):
        for more in range(4):
            for fewer in range(4):
                if more == fewer:
                    continue
                with self.subTest(more=more, fewer=fewer):
                    region = boxes(4, 2, 2)
                    region[region.index(fewer)] = more
                    self.assertEqual(run(put(4, 0, region), cells()), [[-1], [-4]])

    def test_all_cells_in_one_region(self):
        self.assertEqual(last(put(2, 0, [0, 0, 0, 0])), [-1])
        self.assertEqual(last(put(9, 1, [0] * 81)), [-1])

    def test_regions_that_do_not_lie_together(self):
        # No two cells of a region touch; r1c1 and r2c3 are in one, r1c1 and r2c4 are not.
        region = [(row + 2 * column) % 5 for row in range(5) for column in range(5)]
        self.assertEqual(
            run(put(5, 0, region), give(1, 1, 3), give(2, 3, 3), give(2, 4, 3), cells()),
            [[0], [0], [-2], [0], told(blank(5, r1c1=3, r2c4=3))],
        )


class WhatIsLeftTest(unittest.TestCase):
    REFUSED = (
        put(1, 0, []),
        put(10, 1, []),
        put(4, 2, []),
        put(4, -1, []),
        put(4, 0, [0] * 16),
        put(2, 1, [0, 0, 1, 2]),
        put(9, 0, [9] * 81),
    )

    def test_refused_set_leaves_square_and_givens(self):
        for refused in self.REFUSED:
            with self.subTest(refused=refused):
                self.assertEqual(
                    run(put(4, 0, boxes(4, 2, 2)), give(1, 1, 4), refused, cells(), give(2, 2, 4),
                        give(4, 4, 4), give(2, 3, 4), cells())[2:],
                    [[-1], told(blank(4, r1c1=4)), [-2], [0], [0], told(blank(4, r1c1=4, r2c3=4, r4c4=4))],
                )

    def test_refused_set_with_other_diagonals_leaves_them_counting(self):
        self.assertEqual(
            run(put(4, 1, boxes(4, 2, 2)), give(1, 1, 4), put(4, 0, [0] * 16), give(4, 4, 4)),
            [[0], [0], [-1], [-2]],
        )

    def test_set_leaves_nothing_given(self):
        square = put(4, 0, boxes(4, 2, 2))
        self.assertEqual(
            run(square, give(1, 1, 4), square, cells(), give(1, 2, 4))[2:],
            [[0], told([0] * 16), [0]],
        )

    def test_set_replaces_size_regions_and_diagonals(self):
        self.assertEqual(
            run(put(4, 1, boxes(4, 2, 2)), put(3, 0, rows_as_regions(3)), cells(), give(1, 1, 4),
                load([0] * 16), give(1, 1, 3), give(2, 2, 3), cells()),
            [[0], [0], told([0] * 9), [-1], [-1], [0], [0], told(blank(3, r1c1=3, r2c2=3))],
        )


if __name__ == "__main__":
    unittest.main()
