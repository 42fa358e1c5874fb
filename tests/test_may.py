"""Point 8: sq_may."""

import unittest

from tests.helper import blank, boxes, cells, count, cyclic, drawn, last, load, may, put, rows_as_regions, run, spare
from tests.helper import tell, told

LOWEST = -2147483648
HIGHEST = 2147483647


def two_bytes(*texts):
    """How sq_may answers cells that may have the digits of these texts."""
    each = []
    for text in texts:
        bits = sum(1 << int(digit) - 1 for digit in text)
        each += [bits % 256, bits // 256]
    return told(each)


class MayTest(unittest.TestCase):
    def setUp(self):
        self.square = put(4, 0, boxes(4, 2, 2))

    def test_no_filling(self):
        self.assertEqual(last(put(2, 1, [0, 0, 1, 1]), may()), [-3])
        self.assertEqual(last(put(6, 0, cyclic(6)), may()), [-3])
        self.assertEqual(last(self.square, load(drawn("12..", "..3.", "....", "...4")), may()), [-3])

    def test_one_filling(self):
        one = load(drawn("1...", "..3.", ".4..", "...2"))
        self.assertEqual(last(self.square, one, may()), two_bytes(*"1324423124133142"))

    def test_one_filling_that_singles_do_not_find(self):
        hard = drawn(
            "8........", "..36.....", ".7..9.2..", ".5...7...", "....457..", "...1...3.", "..1....68", "..85...1.",
            ".9....4..",
        )
        square = (put(9, 0, boxes(9, 3, 3)), load(hard))
        filling = last(*square, tell(0))[1:]
        expected = two_bytes(*[str(digit) for digit in filling])
        self.assertEqual(last(*square, may()), expected)
        self.assertEqual(run(*square, count(), may(), count(), may())[2:], [[1], expected, [1], expected])
        self.assertEqual(run(*square, spare(), may(), count())[2:], [told([0] * 81), expected, [1]])

    def test_no_filling_found_out_twice(self):
        self.assertEqual(run(put(6, 0, cyclic(6)), may(), count(), may(), tell(0))[1:], [[-3], [0], [-3], [-3]])

    def test_written_out(self):
        answer = [8, 1, 0, 2, 0, 2, 0, 1, 0]
        self.assertEqual(last(put(2, 0, [0, 0, 1, 1]), load([1, 0, 0, 0]), may()), answer)

    def test_a_few_fillings(self):
        # The six fillings that test_tell.py has in order.
        fillings = (
            "1234341221434321", "1234341223414123", "1234341241232341", "1234341243212143", "1234342121434312",
            "1234342143122143",
        )
        few = load(drawn("1234", "34..", "....", "...."))
        expected = ["".join(sorted(set(digits))) for digits in zip(*fillings)]
        self.assertEqual(expected[6:10], ["12", "12", "24", "13"])
        self.assertEqual(last(self.square, few, may()), two_bytes(*expected))

    def test_very_many(self):
        for n in range(4, 10):
            with self.subTest(n=n):
                every = "123456789"[:n]
                self.assertEqual(last(put(n, 0, rows_as_regions(n)), may()), two_bytes(*[every] * (n * n)))
        everywhere = [162] + [255, 1] * 81
        self.assertEqual(last(put(9, 0, boxes(9, 3, 3)), may()), everywhere)
        self.assertEqual(last(put(9, 1, boxes(9, 3, 3)), may()), everywhere)

    def test_some_digits_given(self):
        # Digits that are not given yet can do whatever one of them can do.
        answer = last(put(9, 0, boxes(9, 3, 3)), load(blank(9, r1c1=9, r5c5=1)), may())
        self.assertEqual(answer[:5], [162, 0, 1, 255, 0])
        self.assertEqual(answer[1 + 2 * 80:], [255, 1])
        self.assertEqual(answer[1 + 2 * 40:3 + 2 * 40], [1, 0])
        self.assertEqual(answer[1 + 2 * 37:3 + 2 * 37], [254, 1])

    def test_the_ninth_digit_is_in_the_upper_byte(self):
        full = last(put(9, 0, boxes(9, 3, 3)), [7, 0, 81])[1:]
        expected = [number for digit in full for number in (1 << digit - 1 & 255, 1 if digit == 9 else 0)]
        self.assertEqual(last(put(9, 0, boxes(9, 3, 3)), load(full), may()), told(expected))

    def test_all_given(self):
        full = drawn("1234", "3412", "2143", "4321")
        self.assertEqual(last(self.square, load(full), may()), two_bytes(*"1234341221434321"))

    def test_room(self):
        answer = two_bytes(*["1234"] * 16)
        for room, expected in (
            (LOWEST, [-1]),
            (-1, [-1]),
            (0, [-6]),
            (16, [-6]),
            (31, [-6]),
            (32, answer),
            (33, answer),
            (1048576, answer),
            (1048577, [-1]),
            (HIGHEST, [-1]),
        ):
            with self.subTest(room=room):
                self.assertEqual(last(self.square, may(room)), expected)

    def test_wrong_before_none_before_too_little_room(self):
        none = load(drawn("12..", "..3.", "....", "...4"))
        self.assertEqual(run(self.square, none, may(-1), may(0), may(31), may(1048577))[2:], [[-1], [-3], [-3], [-1]])

    def test_nothing_changes(self):
        made = blank(4, r1c1=1, r2c2=2)
        for room in (-1, 0, 32):
            with self.subTest(room=room):
                self.assertEqual(run(self.square, load(made), may(room), cells(), count())[3:], [told(made), [24]])


if __name__ == "__main__":
    unittest.main()
