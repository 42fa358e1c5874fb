"""Point 5: sq_cells, and the room for bytes."""

import unittest

from tests.helper import blank, boxes, cells, give, last, load, put, rows_as_regions, run, told

LOWEST = -2147483648
HIGHEST = 2147483647


class CellsTest(unittest.TestCase):
    def test_before_and_behind_load_and_give(self):
        made = blank(4, r1c1=1, r2c3=1)
        more = blank(4, r1c1=1, r2c3=1, r4c2=1)
        self.assertEqual(
            run(put(4, 0, boxes(4, 2, 2)), cells(), load(made), cells(), give(4, 2, 1), cells(), cells()),
            [[0], told([0] * 16), [0], told(made), [0], told(more), told(more)],
        )

    def test_cells_go_row_by_row(self):
        made = [0, 2, 1, 3, 0, 0, 0, 0, 2]
        self.assertEqual(last(put(3, 0, rows_as_regions(3)), load(made), cells()), [9] + made)

    def test_room(self):
        for n in range(2, 10):
            size = n * n
            square = put(n, 0, rows_as_regions(n))
            made = [0] * size
            made[1] = n
            for room, answer in (
                (LOWEST, [-1]),
                (-2, [-1]),
                (-1, [-1]),
                (0, [-6]),
                (1, [-6]),
                (size - 1, [-6]),
                (size, told(made)),
                (size + 1, told(made)),
                (1048575, told(made)),
                (1048576, told(made)),
                (1048577, [-1]),
                (HIGHEST, [-1]),
            ):
                with self.subTest(n=n, room=room):
                    self.assertEqual(last(square, load(made), cells(room)), answer)

    def test_room_counts_cells_that_are_not_given_too(self):
        self.assertEqual(last(put(2, 0, [0, 0, 1, 1]), cells(3)), [-6])
        self.assertEqual(last(put(2, 0, [0, 0, 1, 1]), cells(4)), [4, 0, 0, 0, 0])

    def test_nothing_changes(self):
        made = blank(4, r1c1=1)
        for room in (-1, 0, 15, 16, 1048577):
            with self.subTest(room=room):
                self.assertEqual(last(put(4, 0, boxes(4, 2, 2)), load(made), cells(room), cells()), told(made))


if __name__ == "__main__":
    unittest.main()
