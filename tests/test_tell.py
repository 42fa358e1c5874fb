"""Point 7: sq_tell, and the order of the fillings."""

import unittest

from tests.helper import blank, boxes, cells, count, cyclic, drawn, last, load, put, rows_as_regions, run, tell, told

LOWEST = -2147483648
HIGHEST = 2147483647

# Told by trying digits one by one, a million times over.
LATIN_MILLIONTH = drawn(
    "123456789", "214365897", "341278956", "432189675", "567893142", "758932461", "689721534", "895647213", "976514328",
)


class TellTest(unittest.TestCase):
    def setUp(self):
        self.square = put(4, 0, boxes(4, 2, 2))

    def all_told(self, square, many):
        return run(square, *[tell(k) for k in range(many + 1)])[1:]

    def test_the_order_of_fillings(self):
        few = load(drawn("1234", "34..", "....", "...."))
        expected = (
            ("1234", "3412", "2143", "4321"),
            ("1234", "3412", "2341", "4123"),
            ("1234", "3412", "4123", "2341"),
            ("1234", "3412", "4321", "2143"),
            ("1234", "3421", "2143", "4312"),
            ("1234", "3421", "4312", "2143"),
        )
        for k, rows in enumerate(expected):
            with self.subTest(k=k):
                self.assertEqual(last(self.square, few, tell(k)), told(drawn(*rows)))
        self.assertEqual(last(self.square, few, tell(6)), [-3])

    def test_each_number_up_to_the_last(self):
        for square, many in (
            (self.square, 288),
            (put(4, 1, boxes(4, 2, 2)), 48),
            (put(5, 0, cyclic(5)), 290),
            (put(3, 0, rows_as_regions(3)), 12),
        ):
            fillings = self.all_told(square, many)
            if many < 290:
                self.assertEqual(fillings.pop(), [-3])
            self.assertEqual(fillings, sorted(fillings))
            self.assertEqual(len({tuple(filling) for filling in fillings}), len(fillings))

    def test_first_filling(self):
        expected = drawn(
            "123456789", "456789123", "789123456", "214365897", "365897214", "897214365", "531642978", "642978531",
            "978531642",
        )
        self.assertEqual(last(put(9, 0, boxes(9, 3, 3)), tell(0)), told(expected))

    def test_last_and_one_more(self):
        self.assertEqual(last(self.square, tell(287)), told(drawn("4321", "2143", "3412", "1234")))
        self.assertEqual(last(self.square, tell(288)), [-3])
        latin = put(5, 0, rows_as_regions(5))
        self.assertEqual(last(latin, tell(161279)), told(drawn("54321", "45213", "32154", "21435", "13542")))
        self.assertEqual(last(latin, tell(161280)), [-3])
        self.assertEqual(last(latin, tell(1000000)), [-3])

    def test_far_on(self):
        # By turning all digits round, the last but k becomes the one numbered k.
        latin = put(5, 0, rows_as_regions(5))
        for k in (1000, 54321, 80639):
            upward = last(latin, tell(k))
            downward = last(latin, tell(161279 - k))
            self.assertEqual(downward[1:], [6 - digit for digit in upward[1:]])

    def test_none_one(self):
        none = load(drawn("12..", "..3.", "....", "...4"))
        one = load(drawn("1...", "..3.", ".4..", "...2"))
        self.assertEqual(run(self.square, none, tell(0), tell(1), tell(1000000))[2:], [[-3], [-3], [-3]])
        filling = told(drawn("1324", "4231", "2413", "3142"))
        self.assertEqual(run(self.square, one, tell(0), tell(1), tell(1000000))[2:], [filling, [-3], [-3]])

    def test_all_given(self):
        full = drawn("1234", "3412", "2143", "4321")
        self.assertEqual(run(self.square, load(full), tell(0), tell(1))[2:], [told(full), [-3]])

    def test_what_is_given_stands(self):
        given = blank(9, r1c1=9, r5c5=1, r9c9=7)
        filling = last(put(9, 1, boxes(9, 3, 3)), load(given), tell(1000))
        self.assertEqual(filling[0], 81)
        self.assertEqual([filling[1 + cell] for cell in (0, 40, 80)], [9, 1, 7])

    def test_k(self):
        filling = told(drawn("1234", "3412", "2143", "4321"))
        for k, answer in (
            (LOWEST, [-1]),
            (-1, [-1]),
            (0, filling),
            (288, [-3]),
            (1000000, [-3]),
            (1000001, [-1]),
            (HIGHEST, [-1]),
        ):
            with self.subTest(k=k):
                self.assertEqual(last(self.square, tell(k)), answer)

    def test_the_highest_k(self):
        filling = last(put(9, 0, rows_as_regions(9)), tell(1000000))
        self.assertEqual(filling, told(LATIN_MILLIONTH))

    def test_room(self):
        filling = told(drawn("1234", "3412", "2143", "4321"))
        for room, answer in (
            (LOWEST, [-1]),
            (-1, [-1]),
            (0, [-6]),
            (15, [-6]),
            (16, filling),
            (17, filling),
            (1048576, filling),
            (1048577, [-1]),
            (HIGHEST, [-1]),
        ):
            with self.subTest(room=room):
                self.assertEqual(last(self.square, tell(0, room)), answer)

    def test_wrong_before_none_before_too_little_room(self):
        self.assertEqual(
            run(
                self.square, tell(-1, 0), tell(0, -1), tell(288, -1), tell(1000001, 16), tell(288, 1048577),
                tell(288, 0), tell(288, 16), tell(287, 0),
            )[1:],
            [[-1], [-1], [-1], [-1], [-1], [-3], [-3], [-6]],
        )

    def test_nothing_changes(self):
        made = blank(4, r1c1=1, r2c2=2)
        for k in (-1, 0, 23, 24, 1000001):
            with self.subTest(k=k):
                self.assertEqual(run(self.square, load(made), tell(k), cells(), count())[3:], [told(made), [24]])


if __name__ == "__main__":
    unittest.main()
