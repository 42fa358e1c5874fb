"""Cells that are alike in every filling: squares whose regions are not quite rows or boxes."""

import unittest

from squaresteps.square import Square
from squaresteps.twins import PRIME, inverse, twins_among
from tests.helper import boxes, count, cyclic, last, load, may, put, rows_as_regions, run, tell


def twin_names(n, diagonals, region):
    square = Square(n, diagonals, region)
    lists = twins_among(n, square.layout.unit_sets)
    return [" ".join(f"r{cell // n + 1}c{cell % n + 1}" for cell in cells) for cells in lists]


def region_of(rows):
    return [int(sign) for sign in rows.replace(" ", "")]


class TwinsTest(unittest.TestCase):
    def test_none_in_regular_squares(self):
        for n in range(4, 10):
            for diagonals in (0, 1):
                with self.subTest(n=n, diagonals=diagonals):
                    self.assertEqual(twin_names(n, diagonals, rows_as_regions(n)), [])
                    self.assertEqual(twin_names(n, 0, cyclic(n)), [])
        for n, height, width in ((4, 2, 2), (6, 2, 3), (8, 2, 4), (9, 3, 3)):
            self.assertEqual(twin_names(n, 0, boxes(n, height, width)), [])
            self.assertEqual(twin_names(n, 1, boxes(n, height, width)), [])

    def test_two_cells_that_changed_their_regions(self):
        for n in range(4, 10):
            region = rows_as_regions(n)
            region[1] = 2
            region[2 * n + 2] = 0
            with self.subTest(n=n):
                self.assertEqual(twin_names(n, 0, region), ["r1c2 r3c3"])

    def test_small_squares(self):
        # In both fillings of 2 by 2, and in all six of 3 by 3 with these regions, more cells are alike.
        region = [0, 2, 0, 1, 1, 1, 2, 2, 0]
        self.assertEqual(twin_names(3, 0, region), ["r1c1 r2c3", "r1c2 r3c3", "r2c2 r3c1"])
        self.assertEqual(twin_names(2, 0, [0, 0, 1, 1]), ["r1c1 r2c2", "r1c2 r2c1"])

    def test_across_several_units(self):
        # Rows 1 to 3 and regions 1 to 3 differ by the first two, columns 1 to 3 and regions 1, 4 and 7 by the last two.
        region = region_of("000111222 000111282 000111222 333744555 333444555 337444555 666777888 666777288 666473888")
        self.assertEqual(twin_names(9, 0, region), ["r2c8 r8c7", "r4c4 r9c4", "r6c3 r9c6"])


class InverseTest(unittest.TestCase):
    def test_inverse(self):
        self.assertEqual(PRIME, 2 ** 61 - 1)
        for number in (1, 2, 3, 18, 2 ** 40 + 1, PRIME - 2, PRIME - 1):
            with self.subTest(number=number):
                self.assertEqual(number * inverse(number) % PRIME, 1)


class FillingsWithTwinsTest(unittest.TestCase):
    """Without twins, these would take far longer than all other tests together."""

    def test_twins_in_one_column(self):
        region = region_of("000111222 000111282 000111222 333744555 333444555 337444555 666777888 666777288 666473888")
        square = put(9, 0, region)
        self.assertEqual(run(square, count(), tell(0), may())[1:], [[0], [-3], [-3]])

    def test_twins_that_do_not_see_each_other(self):
        region = region_of("000711422 000110222 001111222 333428555 333444555 733444555 666771888 666737888 666777848")
        self.assertEqual(twin_names(9, 0, region), ["r2c6 r3c3", "r6c1 r8c5"])
        square = put(9, 0, region)
        self.assertEqual(last(square, count()), [1000000])
        filling = last(square, tell(0))[1:]
        self.assertEqual([filling[14], filling[45]], [filling[20], filling[67]])
        given = [0] * 81
        given[14] = 9
        self.assertEqual(last(square, load(given), may())[1 + 2 * 20:3 + 2 * 20], [0, 1])

    def test_twins_in_one_row(self):
        region = region_of("00001111 20001114 20223333 22223333 14445555 44445555 66667777 67667776")
        self.assertEqual(run(put(8, 0, region), count(), tell(0), may())[1:], [[0], [-3], [-3]])


if __name__ == "__main__":
    unittest.main()
