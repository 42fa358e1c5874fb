"""Which refusal comes before which."""

import unittest

from tests.helper import START, blank, boxes, cells, count, give, load, may, put, run, spare, steps, tell


class NoSquareFirstTest(unittest.TestCase):
    WRONG = (
        load([]),
        load([0] * 16),
        load([255] * 81),
        load([1] * 16),
        give(0, 0, -1),
        give(1, 1, 0),
        give(10, 10, 10),
        cells(-1),
        cells(0),
        cells(1048577),
        count(0),
        count(1),
        count(1000001),
        tell(-1),
        tell(0),
        tell(0, 0),
        tell(0, -1),
        tell(1000001, 1048577),
        may(-1),
        may(0),
        may(1048576),
        may(1048577),
        spare(-1),
        spare(0),
        spare(1048576),
        spare(1048577),
        steps(-1),
        steps(0),
        steps(1048576),
        steps(1048577),
    )

    def test_new_object(self):
        for wrong in self.WRONG:
            with self.subTest(wrong=wrong):
                self.assertEqual(run(wrong), [[-4]])

    def test_behind_a_refused_set(self):
        for wrong in self.WRONG:
            with self.subTest(wrong=wrong):
                self.assertEqual(run(put(4, 0, [0] * 16), wrong), [[-1], [-4]])

    def test_behind_another_start(self):
        for wrong in self.WRONG:
            with self.subTest(wrong=wrong):
                self.assertEqual(run(put(4, 0, boxes(4, 2, 2)), START, wrong), [[0], [0], [-4]])

    def test_start_and_set_are_never_refused_for_want_of_a_square(self):
        self.assertEqual(run(START, put(1, 0, []), put(2, 1, [0, 0, 1, 1])), [[0], [-1], [0]])


class WrongFirstTest(unittest.TestCase):
    def setUp(self):
        self.square = put(4, 0, boxes(4, 2, 2))

    def test_wrong_room_before_too_little_room(self):
        self.assertEqual(run(self.square, cells(-1), cells(0)), [[0], [-1], [-6]])

    def test_wrong_cells_before_a_digit_twice(self):
        self.assertEqual(run(self.square, load(blank(4, r1c1=3, r1c2=3, r4c4=5))), [[0], [-1]])
        self.assertEqual(run(self.square, load([1] * 15)), [[0], [-1]])
        self.assertEqual(run(self.square, load([1] * 17)), [[0], [-1]])

    def test_wrong_digit_before_a_digit_twice(self):
        self.assertEqual(run(self.square, give(1, 1, 4), give(1, 2, 5), give(1, 5, 4)), [[0], [0], [-1], [-1]])


if __name__ == "__main__":
    unittest.main()
