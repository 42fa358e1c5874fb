"""The interface: how calls are handed in and answers given back."""

import unittest

from squaresteps.desk import answers
from tests.helper import START, blank, boxes, cells, count, give, joined, load, may, put, spare, steps, tell

MIXED = joined([
    START,
    cells(16),
    put(2, 0, [0, 0, 1, 1]),
    load([1, 2, 2, 1]),
    load([1, 1, 0, 0]),
    cells(4),
    cells(3),
    give(1, 1, 0),
    cells(4),
    put(3, 2, []),
    give(3, 1, 1),
    load([]),
    cells(-1),
    count(1),
    count(1000),
    tell(0, 4),
    tell(0, 3),
    tell(1, 4),
    may(8),
    spare(4),
    steps(1000),
    give(2, 2, 0),
    give(2, 1, 0),
    give(1, 2, 0),
    count(1),
    count(1000),
    tell(1, 4),
    tell(2, 4),
    may(8),
    may(7),
    spare(4),
    steps(6),
    steps(5),
    START,
    count(1),
    tell(0, 4),
    may(8),
    spare(4),
    steps(6),
])

MIXED_ANSWERS = [
    1, 0,
    1, -4,
    1, 0,
    1, 0,
    1, -2,
    5, 4, 1, 2, 2, 1,
    1, -6,
    1, 0,
    5, 4, 0, 2, 2, 1,
    1, -1,
    1, -1,
    1, -1,
    1, -1,
    1, 1,
    1, 1,
    5, 4, 1, 2, 2, 1,
    1, -6,
    1, -3,
    9, 8, 1, 0, 2, 0, 2, 0, 1, 0,
    5, 4, 0, 1, 1, 1,
    19, 18, 114, 49, 99, 49, 61, 49, 32, 97, 108, 111, 110, 101, 10, 100, 111, 110, 101, 10,
    1, 0,
    1, 0,
    1, 0,
    1, 1,
    1, 2,
    5, 4, 2, 1, 1, 2,
    1, -3,
    9, 8, 3, 0, 3, 0, 3, 0, 3, 0,
    1, -6,
    1, -3,
    7, 6, 115, 116, 117, 99, 107, 10,
    1, -6,
    1, 0,
    1, -4,
    1, -4,
    1, -4,
    1, -4,
    1, -4,
]


class DeskTest(unittest.TestCase):
    def test_written_out(self):
        calls = [1, 2, 2, 1, 4, 0, 1, 1, 0, 3, 4, 0, 1, 0, 0, 4, 2, 2, 2, 4, 2, 1, 1, 5, 4]
        self.assertEqual(answers(calls), [1, 0, 1, 0, 1, 0, 1, 0, 1, -2, 5, 4, 0, 1, 0, 2])

    def test_how_many_numbers_then_these(self):
        self.assertEqual(answers(list(MIXED)), MIXED_ANSWERS)

    def test_what_is_handed_in_is_not_changed(self):
        calls = list(MIXED)
        answers(calls)
        self.assertEqual(calls, MIXED)

    def test_what_is_handed_in_is_not_changed_for_a_while(self):
        class OnlyRead(list):
            def refuse(self, *rest):
                raise AssertionError("the list handed in was changed")

            append = extend = insert = pop = remove = clear = reverse = sort = refuse
            __setitem__ = __delitem__ = __iadd__ = __imul__ = refuse

        self.assertEqual(answers(OnlyRead(MIXED)), MIXED_ANSWERS)

    def test_nothing_is_kept(self):
        calls = list(MIXED)
        first = answers(calls)
        second = answers(calls)
        self.assertEqual(first, second)
        self.assertIsNot(first, second)

    def test_the_object_is_new_each_time(self):
        answers(joined([START, put(4, 0, boxes(4, 2, 2)), give(1, 1, 1)]))
        self.assertEqual(answers(joined([START, cells()])), [1, 0, 1, -4])

    def test_answers_given_back_are_not_kept(self):
        given = answers(list(MIXED))
        for place in range(len(given)):
            given[place] = 7
        self.assertEqual(answers(list(MIXED)), MIXED_ANSWERS)

    def test_answers_are_plain_whole_numbers_in_a_list(self):
        given = answers(list(MIXED))
        self.assertIs(type(given), list)
        self.assertEqual({type(number) for number in given}, {int})

    def test_bytes_told_earlier_stay_as_they_were(self):
        made = blank(2, r1c1=1)
        calls = joined([START, put(2, 0, [0, 0, 1, 1]), load(made), cells(), give(2, 2, 1), cells()])
        self.assertEqual(answers(calls), [1, 0, 1, 0, 1, 0, 5, 4, 1, 0, 0, 0, 1, 0, 5, 4, 1, 0, 0, 1])

    def test_300_calls(self):
        # As many and as long calls as may be handed in.
        square = put(9, 1, boxes(9, 3, 3))
        calls = joined([START, square] + [load([0] * 81), cells()] * 149)
        self.assertEqual(answers(calls), [1, 0, 1, 0] + ([1, 0, 82, 81] + [0] * 81) * 149)

    def test_many_questions_about_one_square(self):
        square = put(9, 0, boxes(9, 3, 3))
        questions = [count(1000000), tell(1000, 81), may(162), spare(81), steps(6), cells(81)] * 49
        told = answers(joined([START, square, give(5, 5, 5)] + questions))
        self.assertEqual(told[:6], [1, 0, 1, 0, 1, 0])
        each = told[6:6 + len(told[6:]) // 49]
        self.assertEqual(told[6:], each * 49)
        self.assertEqual(each[:4], [1, 1000000, 82, 81])
        self.assertEqual(each[-91:-81], [7, 6, 115, 116, 117, 99, 107, 10, 82, 81])

    def test_a_number_that_no_call_has(self):
        for number in (-1, 0, 11):
            with self.assertRaises(ValueError):
                answers([1, number])


if __name__ == "__main__":
    unittest.main()
