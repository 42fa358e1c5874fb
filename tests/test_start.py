"""Point 1: sq_start."""

import unittest

from squaresteps.desk import answers
from tests.helper import START, boxes, cells, give, joined, load, parted, put, run


class StartTest(unittest.TestCase):
    def test_start_alone(self):
        self.assertEqual(answers([1]), [1, 0])

    def test_start_many_times(self):
        self.assertEqual(answers([1] * 300), [1, 0] * 300)

    def test_nothing_is_set_behind_start(self):
        self.assertEqual(run(load([0] * 16)), [[-4]])
        self.assertEqual(run(give(1, 1, 1)), [[-4]])
        self.assertEqual(run(cells()), [[-4]])

    def test_start_takes_the_square_away(self):
        square = put(4, 0, boxes(4, 2, 2))
        self.assertEqual(
            run(square, give(1, 1, 1), START, load([0] * 16), give(1, 1, 1), cells()),
            [[0], [0], [0], [-4], [-4], [-4]],
        )

    def test_square_set_behind_a_second_start_has_no_givens(self):
        square = put(4, 0, boxes(4, 2, 2))
        self.assertEqual(
            run(square, give(1, 1, 1), START, square, cells())[2:],
            [[0], [0], [16] + [0] * 16],
        )

    def test_refused_set_behind_a_second_start_brings_no_square_back(self):
        square = put(4, 0, boxes(4, 2, 2))
        calls = joined([START, square, START, put(1, 0, []), cells()])
        self.assertEqual(parted(answers(calls)), [[0], [0], [0], [-1], [-4]])


if __name__ == "__main__":
    unittest.main()
