"""Point 9: sq_spare."""

import unittest

from tests.helper import blank, boxes, cells, count, drawn, give, last, load, put, rows_as_regions, run, spare, told

LOWEST = -2147483648
HIGHEST = 2147483647

FULL = drawn("1234", "3412", "2143", "4321")
ONE = drawn("1...", "..3.", ".4..", "...2")


class SpareTest(unittest.TestCase):
    def setUp(self):
        self.square = put(4, 0, boxes(4, 2, 2))

    def test_no_filling(self):
        self.assertEqual(last(put(2, 1, [0, 0, 1, 1]), spare()), [-3])
        self.assertEqual(last(self.square, load(drawn("12..", "..3.", "....", "...4")), spare()), [-3])

    def test_more_than_one_filling(self):
        self.assertEqual(last(self.square, spare()), [-3])
        self.assertEqual(last(put(9, 0, boxes(9, 3, 3)), spare()), [-3])
        self.assertEqual(last(put(2, 0, [0, 0, 1, 1]), spare()), [-3])
        self.assertEqual(last(self.square, load(drawn("1234", "34..", "....", "....")), spare()), [-3])

    def test_two_fillings(self):
        # r1c1, r1c2, r3c1 and r3c2 can be 12 over 21 or 21 over 12.
        made = drawn("..34", "3412", "..43", "4321")
        self.assertEqual(run(self.square, load(made), count(), spare())[2:], [[2], [-3]])

    def test_written_out(self):
        square = put(2, 0, [0, 0, 1, 1])
        self.assertEqual(last(square, load([1, 0, 0, 0]), spare()), [4, 0, 0, 0, 0])
        self.assertEqual(last(square, load([1, 0, 0, 1]), spare()), [4, 1, 0, 0, 1])

    def test_none_can_be_spared(self):
        self.assertEqual(last(self.square, load(ONE), spare()), told([0] * 16))

    def test_all_can_be_spared(self):
        self.assertEqual(last(self.square, load(FULL), spare()), told([1] * 16))

    def spared_by_count(self, square, made):
        """What sq_spare is to answer, told by counting without each given."""
        expected = [0] * len(made)
        for cell, digit in enumerate(made):
            others = list(made)
            others[cell] = 0
            if digit != 0 and last(square, load(others), count(2)) == [1]:
                expected[cell] = 1
        return told(expected)

    def test_some_can_be_spared(self):
        # ONE and another given, which can be spared.
        made = drawn("13..", "..3.", ".4..", "...2")
        expected = told(drawn("0100", "0000", "0000", "0000"))
        self.assertEqual(self.spared_by_count(self.square, made), expected)
        self.assertEqual(last(self.square, load(made), spare()), expected)

    def test_cells_that_are_not_given(self):
        made = list(FULL)
        made[5] = 0
        expected = [1] * 16
        expected[5] = 0
        self.assertEqual(last(self.square, load(made), spare()), told(expected))

    def test_a_square_with_nothing_to_spare(self):
        # 17 givens, the fewest that a square of 9 by 9 with boxes can have.
        made = drawn(
            "...8.1...", ".......43", "5........", "....7.8..", "......1..", ".2..3....", "6......75", "..34.....",
            "...2..6..",
        )
        square = put(9, 0, boxes(9, 3, 3))
        self.assertEqual(run(square, load(made), count(), spare())[2:], [[1], told([0] * 81)])
        self.assertEqual(last(square, load(made), give(1, 1, 2), spare())[:3], [81, 1, 0])

    def test_the_diagonals_help_to_spare(self):
        made = drawn("..34", "3412", "4321", "..43")
        self.assertEqual(last(put(4, 0, rows_as_regions(4)), load(made), spare()), [-3])
        square = put(4, 1, rows_as_regions(4))
        self.assertEqual(last(square, load(made), spare()), self.spared_by_count(square, made))
        self.assertEqual(last(square, load(made), spare())[:9], [16, 0, 0, 1, 1, 1, 1, 1, 1])

    def test_the_givens_stay(self):
        made = drawn("13..", "..3.", ".4..", "...2")
        for room in (-1, 0, 15, 16):
            with self.subTest(room=room):
                self.assertEqual(
                    run(self.square, load(made), spare(room), cells(), count())[3:],
                    [told(made), [1]],
                )
        made = blank(4, r1c1=1)
        self.assertEqual(last(self.square, load(made), spare(), cells()), told(made))

    def test_room(self):
        for room, expected in (
            (LOWEST, [-1]),
            (-1, [-1]),
            (0, [-6]),
            (15, [-6]),
            (16, told([1] * 16)),
            (17, told([1] * 16)),
            (1048576, told([1] * 16)),
            (1048577, [-1]),
            (HIGHEST, [-1]),
        ):
            with self.subTest(room=room):
                self.assertEqual(last(self.square, load(FULL), spare(room)), expected)

    def test_wrong_before_none_before_too_little_room(self):
        none = load(drawn("12..", "..3.", "....", "...4"))
        self.assertEqual(run(self.square, none, spare(-1), spare(0), spare(1048577))[2:], [[-1], [-3], [-1]])
        self.assertEqual(run(self.square, spare(-1), spare(0), spare(1048577))[1:], [[-1], [-3], [-1]])


if __name__ == "__main__":
    unittest.main()
