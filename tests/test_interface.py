"""The interface: how calls are handed in, and how answers are given back."""

import unittest

from pansweighed.weighings import answers

LINE = [
    0, 9, 0, 2,
    1, 4, 100, 1, 7, 11, 1, 1, 50, 1, 9, 0,
    4, 0, 3, 2, 49, 3, 5, 0, 5, 1,
    6, 0, 0, 6, 0, 1, 6, 2, 0,
    7, 8, 9,
    10, 0, 10, 2, 11, 1, 12,
    2, 1, 2, 2,
    13, 0, 1, 13, 0, 0, 14, 7, 15, 1, 16,
    17, 18, 19, 20, 0,
    21, 0, 22, 24, 21, 1, 21, 1, 23, 22, 23, 21, 2,
]

GIVEN = [
    1, -22, 1, 0,
    1, 0, 1, 1, 1, 2, 1, -22,
    2, 4, 100, 2, 0, 50, 1, -2, 1, 5,
    2, 0, 3, 2, 0, 0, 1, -2,
    1, 1, 6, 2, 1, 1, 0, 0, 0, 2, 0, 6,
    3, 0, 160, 3, 1, -2, 3, 0, 1, 2, 3, 0, 5, 6,
    1, 2, 1, -2,
    3, 0, 5, 1, 1, -22, 3, 0, -2, 1, 3, 0, 0, 1, 3, 0, 0, 1,
    2, 5, 6, 3, 5, 5, 6, 9, 0, 0, 0, 0, 0, 0, 0, 0, 0, 2, 3, 1,
    1, -33, 1, 5, 4, 3, 2, 5, 1, 2, 0, 2, 1, -17, 1, -2, 1, 5, 1, 0, 1, -17,
]


class Form(unittest.TestCase):
    def test_for_each_call_how_many_numbers_then_these(self):
        self.assertEqual(answers(list(LINE)), GIVEN)

    def test_each_call_by_itself(self):
        start = [0, 2, 1, 4, 10, 1, 7, 4]
        for call, given in (
            ([0, 3], [1, 0]),
            ([0, 0], [1, -22]),
            ([1, 1, 5], [1, 2]),
            ([2, 0], [1, 1]),
            ([3, 0, 5], [2, 0, 10]),
            ([4, 1], [2, 7, 4]),
            ([5, 1], [1, 5]),
            ([6, 0, 1], [2, 0, 0]),
            ([7], [1, 1]),
            ([8], [6, 2, 1, 1, 0, 0, 0]),
            ([9], [2, 0, 4]),
            ([10, 0], [3, 0, 7, 1]),
            ([11, 0], [3, 0, 1, 2]),
            ([12], [3, 0, 1, 1]),
            ([13, 0, 1], [3, 0, 1, 1]),
            ([14, 1], [3, 0, 7, 1]),
            ([15, 0], [3, 0, 0, 1]),
            ([16], [3, 0, 0, 1]),
            ([17], [2, 4, 8]),
            ([18], [3, 4, 3, 4]),
            ([19], [9, 0, 0, 0, 0, 0, 0, 0, 0, 0]),
            ([20, 1], [2, 5, 4]),
            ([21, 1], [1, -33]),
            ([22], [1, 1]),
            ([23], [1, -2]),
            ([24], [4, 2, 2, 2, 0]),
        ):
            self.assertEqual(answers(start + call), [1, 0, 1, 0, 1, 1] + given)

    def test_whole_numbers_in_a_list(self):
        given = answers(list(LINE))
        self.assertIs(type(given), list)
        for number in given:
            self.assertIs(type(number), int)

    def test_the_list_stays_as_it_was(self):
        line = list(LINE)
        answers(line)
        self.assertEqual(line, LINE)

    def test_the_list_is_not_changed_for_a_while_either(self):
        class Watched(list):
            def refuse(self, *given):
                raise AssertionError("changed")

            append = extend = insert = pop = remove = clear = reverse = sort = refuse
            __setitem__ = __delitem__ = __iadd__ = __imul__ = refuse

        self.assertEqual(answers(Watched(LINE)), GIVEN)

    def test_nothing_is_kept_from_one_time_to_the_next(self):
        self.assertEqual(answers(LINE), GIVEN)
        answers([0, 5, 1, 242, 7, 1, 1, 1])
        self.assertEqual(answers(LINE), GIVEN)
        self.assertEqual(answers([0, 2, 4, 0, 9]), [1, 0, 1, -2, 2, 0, 0])

    def test_what_is_given_back_may_be_changed(self):
        answers(LINE).clear()
        self.assertEqual(answers(LINE), GIVEN)

    def test_a_thousand_calls(self):
        self.assertEqual(answers([0, 7] * 1000), [1, -22] * 1000)
        start = [0, 5, 1, 242, 3]
        self.assertEqual(answers(start + [5, 0] * 998), [1, 0, 1, 0] + [1, 121, 1, 242] * 499)
        self.assertEqual(len(answers([0, 5] + [8] * 999)), 2 + 999 * 7)

    def test_a_thousand_calls_that_choose_among_all_pans(self):
        start = [0, 5, 1, 1, 0, 1, 3, 0, 1, 9, 0, 1, 27, 0, 1, 81, 0]
        given = [1, 0, 1, 0, 1, 1, 1, 2, 1, 3, 1, 4]
        # Each thing is weighed once by itself. With all five on a pan the determinant is 1 + 5, and what makes them
        # unsure, 5 in all, is less by 5 over 6. Without the last thing's weighing only that thing matters.
        self.assert_given(start + [17] * 994, given + [2, 121, 6] * 994)
        self.assert_given(start + [18] * 994, given + [3, 121, 25, 6] * 994)
        self.assert_given(start + [20, 4] * 994, given + [2, 81, 1] * 994)

    def assert_given(self, line, given):
        # Not by assertEqual, which takes very long to tell how such long lists differ.
        self.assertTrue(answers(line) == given, line[:30])

    def test_three_thousand_numbers(self):
        line = [0, 5] + [1, 121, 7] * 8 + [3, 0, 9, 13, 1, 1] * 495
        self.assertLessEqual(len(line), 3000)
        weighed = [number for r in range(8) for number in (1, r)]
        self.assert_given(line, [1, 0] + weighed + [2, 0, 7, 1, -22] + [2, 0, 9, 1, -22] * 494)


if __name__ == "__main__":
    unittest.main()
