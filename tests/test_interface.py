"""The interface: how calls are handed in, and how answers are given back."""

import unittest

from pansweighed.weighings import answers

LINE = [
    0, 9, 0, 2,
    1, 4, 100, 1, 7, 11, 1, 1, 50, 1, 9, 0,
    4, 0, 3, 2, 49, 3, 5, 0, 5, 1,
    6, 0, 0, 6, 0, 1, 6, 2, 0,
    7, 8, 9,
    10, 0, 10, 2, 11, 1, 12,
    2, 1, 2, 2,
]

GIVEN = [
    1, -22, 1, 0,
    1, 0, 1, 1, 1, 2, 1, -22,
    2, 4, 100, 2, 0, 50, 1, -2, 1, 5,
    2, 0, 3, 2, 0, 0, 1, -2,
    1, 1, 6, 2, 1, 1, 0, 0, 0, 2, 0, 6,
    3, 0, 160, 3, 1, -2, 3, 0, 1, 2, 3, 0, 5, 6,
    1, 2, 1, -2,
]


class Form(unittest.TestCase):
    def test_for_each_call_how_many_numbers_then_these(self):
        self.assertEqual(answers(list(LINE)), GIVEN)

    def test_each_call_by_itself(self):
        start = [0, 2, 1, 4, 10, 1, 7, 4]
        for call, given in (
            ([0, 3], [1, 0]),
            ([0, 0], [1, -22]),
            ([1, 1, 5], [1, 2]),
            ([2, 0], [1, 1]),
            ([3, 0, 5], [2, 0, 10]),
            ([4, 1], [2, 7, 4]),
            ([5, 1], [1, 5]),
            ([6, 0, 1], [2, 0, 0]),
            ([7], [1, 1]),
            ([8], [6, 2, 1, 1, 0, 0, 0]),
            ([9], [2, 0, 4]),
            ([10, 0], [3, 0, 7, 1]),
            ([11, 0], [3, 0, 1, 2]),
            ([12], [3, 0, 1, 1]),
        ):
            self.assertEqual(answers(start + call), [1, 0, 1, 0, 1, 1] + given)

    def test_whole_numbers_in_a_list(self):
        given = answers(list(LINE))
        self.assertIs(type(given), list)
        for number in given:
            self.assertIs(type(number), int)

    def test_the_list_stays_as_it_was(self):
        line = list(LINE)
        answers(line)
        self.assertEqual(line, LINE)

    def test_the_list_is_not_changed_for_a_while_either(self):
        class Watched(list):
            def refuse(self, *given):
                raise AssertionError("changed")

            append = extend = insert = pop = remove = clear = reverse = sort = refuse
            __setitem__ = __delitem__ = __iadd__ = __imul__ = refuse

        self.assertEqual(answers(Watched(LINE)), GIVEN)

    def test_nothing_is_kept_from_one_time_to_the_next(self):
        self.assertEqual(answers(LINE), GIVEN)
        answers([0, 5, 1, 242, 7, 1, 1, 1])
        self.assertEqual(answers(LINE), GIVEN)
        self.assertEqual(answers([0, 2, 4, 0, 9]), [1, 0, 1, -2, 2, 0, 0])

    def test_what_is_given_back_may_be_changed(self):
        answers(LINE).clear()
        self.assertEqual(answers(LINE), GIVEN)

    def test_a_thousand_calls(self):
        self.assertEqual(answers([0, 7] * 1000), [1, -22] * 1000)
        start = [0, 5, 1, 242, 3]
        self.assertEqual(answers(start + [5, 0] * 998), [1, 0, 1, 0] + [1, 121, 1, 242] * 499)
        self.assertEqual(len(answers([0, 5] + [8] * 999)), 2 + 999 * 7)


if __name__ == "__main__":
    unittest.main()
