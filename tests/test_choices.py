"""Point 5: the weighing more that is best, what can be spared, and what is better."""

import unittest

from tests.callers import GREATEST, ask, last, pans, weighed
from tests.unchanged import Unchanged

EIGHT = [((1, 0), 1), ((0, 1), 2), ((1, 1), 3), ((1, -1), 4), ((-1, 0), 5), ((0, -1), 6), ((-1, -1), 7), ((-1, 1), 8)]
UNEVEN = weighed(2, ((1, 1), 10), ((1, 0), 3), ((1, 0), 4))
CROSSING = [((1, 1, 1, 1), 13), ((1, -1, 1, -1), 7), ((1, 1, -1, -1), 3), ((1, -1, -1, 1), -11)]
THREE = weighed(3, ((1, 0, 0), 5), ((0, 1, 0), 6), ((1, 0, 1), 7))


class Next(Unchanged):
    def test_one_thing(self):
        for m in range(9):
            self.assertEqual(last(*weighed(1, *[((-1,), 3)] * m), ("wt_next",)), [1, m + 1])

    def test_the_determinant_stays_0(self):
        for n in (2, 3, 4, 5):
            self.assertEqual(last(("wt_start", n), ("wt_next",)), [1, 0])
        self.assertEqual(last(*weighed(3, ((0, 1, 1), 5)), ("wt_next",)), [1, 0])
        self.assertEqual(last(*weighed(3, *[((0, 1, 1), 5)] * 8), ("wt_next",)), [1, 0])
        self.assertEqual(last(*weighed(5, *[(row + (0,), y) for row, y in CROSSING[:3]]), ("wt_next",)), [1, 0])

    def test_just_enough(self):
        self.assertEqual(last(*weighed(2, ((1, 0), 5)), ("wt_next",)), [3, 1])
        self.assertEqual(last(*weighed(2, ((0, 1), 5)), ("wt_next",)), [1, 1])
        self.assertEqual(last(*weighed(2, ((1, 1), 5)), ("wt_next",)), [5, 4])
        self.assertEqual(last(*weighed(2, ((1, -1), 5)), ("wt_next",)), [4, 4])

    def test_a_fourth_that_crosses(self):
        self.assertEqual(last(*weighed(4, *CROSSING[:3]), ("wt_next",)), [pans(1, -1, -1, 1), 256])
        self.assertEqual(last(*weighed(4, *CROSSING[1:]), ("wt_next",)), [pans(1, 1, 1, 1), 256])

    def test_all_could_be_told_already(self):
        self.assertEqual(last(*UNEVEN, ("wt_next",)), [5, 2 + 3 + 1 + 2])
        self.assertEqual(last(*THREE, ("wt_next",)), [pans(-1, 1, 1), 7])

    def test_five_things(self):
        before = weighed(5, *[([int(k == i) for k in range(5)], 3) for i in range(5)])
        self.assertEqual(last(*before, ("wt_next",)), [121, 6])

    def test_with_eight_weighings_too(self):
        self.assertEqual(last(*weighed(2, *EIGHT), ("wt_next",)), [4, 48])
        crossing = weighed(4, *CROSSING, *CROSSING)
        self.assertEqual(last(*crossing, ("wt_next",)), [40, 8 ** 4 + 4 * 8 ** 3])

    def test_nothing_is_changed(self):
        self.assertEqual(self.assert_unchanged(UNEVEN, ("wt_next",), 2, 3), [5, 8])
        self.assertEqual(self.assert_unchanged(weighed(2, *EIGHT), ("wt_next",), 2, 8), [4, 48])


class Surest(Unchanged):
    def test_one_thing(self):
        for m in range(9):
            self.assertEqual(last(*weighed(1, *[((-1,), 3)] * m), ("wt_surest",)), [1, 1, m + 1])

    def test_just_enough(self):
        self.assertEqual(last(*weighed(2, ((1, 0), 5)), ("wt_surest",)), [3, 2, 1])
        self.assertEqual(last(*weighed(2, ((0, 1), 5)), ("wt_surest",)), [1, 2, 1])
        self.assertEqual(last(*weighed(2, ((1, 1), 5)), ("wt_surest",)), [5, 1, 1])
        self.assertEqual(last(*weighed(4, *CROSSING[:3]), ("wt_surest",)), [pans(1, -1, -1, 1), 1, 1])

    def test_all_could_be_told_already(self):
        # It need not be the one by which the determinant is greatest.
        self.assertEqual(last(*THREE, ("wt_surest",)), [pans(-1, 0, 1), 11, 6])
        self.assertEqual(last(*UNEVEN, ("wt_surest",)), [5, 3, 4])

    def test_of_such_that_are_as_good_the_first(self):
        # Thing 1 alone comes to as much as both together, which would make the determinant greatest.
        before = weighed(2, ((1, 0), 5), ((-1, 0), 6), ((0, -1), 7))
        self.assertEqual(ask(*before, ("wt_surest",), ("wt_next",))[4:], [[3, 1, 1], [4, 5]])
        before = weighed(2, ((1, 0), 5), ((0, 1), 6), ((0, -1), 7))
        self.assertEqual(ask(*before, ("wt_surest",), ("wt_next",))[4:], [[1, 1, 1], [4, 5]])

    def test_with_eight_weighings_too(self):
        self.assertEqual(last(*weighed(2, *EIGHT), ("wt_surest",)), [4, 7, 24])
        before = weighed(2, *[((1, 1), 5)] * 8)
        self.assertEqual(last(*before, ("wt_surest",)), [5, 9, 16])

    def test_with_none_more_all_could_be_told(self):
        for n in (2, 3, 4, 5):
            self.assert_refused([("wt_start", n)], ("wt_surest",), -33, n, 0)
        self.assert_refused(weighed(3, ((0, 1, 1), 5)), ("wt_surest",), -33, 3, 1)
        self.assert_refused(weighed(3, *[((0, 1, 1), 5)] * 8), ("wt_surest",), -33, 3, 8)
        self.assert_refused(weighed(5, ((1, 1, 0, 0, 0), 1), ((0, 0, 1, 0, 0), 2), ((0, 0, 1, 1, 0), 3)),
                            ("wt_surest",), -33, 5, 3)

    def test_nothing_is_changed(self):
        self.assertEqual(self.assert_unchanged(UNEVEN, ("wt_surest",), 2, 3), [5, 3, 4])
        self.assertEqual(self.assert_unchanged(weighed(2, *EIGHT), ("wt_surest",), 2, 8), [4, 7, 24])


class Spare(Unchanged):
    def test_none_weighed(self):
        for n in (1, 5):
            self.assertEqual(last(("wt_start", n), ("wt_spare",)), [0] * 9)

    def test_some(self):
        self.assertEqual(last(*UNEVEN, ("wt_spare",)), [2, 0, 1, 1, 0, 0, 0, 0, 0])
        before = weighed(3, ((1, 0, 0), 1), ((0, 1, 0), 1), ((0, 1, 1), 1), ((0, 0, 1), 1))
        self.assertEqual(last(*before, ("wt_spare",)), [3, 0, 1, 1, 1, 0, 0, 0, 0])

    def test_all(self):
        self.assertEqual(last(*weighed(2, *EIGHT), ("wt_spare",)), [8] + [1] * 8)

    def test_just_enough(self):
        self.assertEqual(last(*weighed(4, *CROSSING), ("wt_spare",)), [0] * 9)
        self.assertEqual(last(*weighed(1, ((1,), 3)), ("wt_spare",)), [0] * 9)
        self.assertEqual(last(*weighed(1, ((1,), 3), ((-1,), 3)), ("wt_spare",)), [2, 1, 1, 0, 0, 0, 0, 0, 0])

    def test_not_all_can_be_told(self):
        self.assertEqual(last(*weighed(3, *[((0, 1, 1), 5)] * 8), ("wt_spare",)), [0] * 9)

    def test_nothing_is_changed(self):
        self.assertEqual(self.assert_unchanged(UNEVEN, ("wt_spare",), 2, 3), [2, 0, 1, 1, 0, 0, 0, 0, 0])


class Better(Unchanged):
    def test_another_one(self):
        self.assertEqual(last(*UNEVEN, ("wt_better", 1)), [5, 6])
        self.assertEqual(last(*UNEVEN, ("wt_better", 2)), [5, 6])
        self.assertEqual(last(*weighed(2, ((1, 0), 3), ((0, 1), 3), ((1, 0), 3)), ("wt_better", 2)), [4, 3])

    def test_as_it_is(self):
        self.assertEqual(last(*weighed(2, ((1, 1), 9), ((-1, 1), 3)), ("wt_better", 1)), [5, 4])
        self.assertEqual(last(*weighed(4, *CROSSING), ("wt_better", 3)), [pans(1, -1, -1, 1), 256])
        self.assertEqual(last(*weighed(1, ((1,), 3)), ("wt_better", 0)), [1, 1])

    def test_of_such_that_are_as_good_the_first(self):
        self.assertEqual(last(*UNEVEN, ("wt_better", 0)), [3, 2])
        self.assertEqual(last(*weighed(2, ((1, 1), 9), ((1, -1), 3)), ("wt_better", 1)), [5, 4])
        self.assertEqual(last(*weighed(1, ((-1,), 3)), ("wt_better", 0)), [1, 1])

    def test_the_determinant_stays_0(self):
        self.assertEqual(last(*weighed(3, ((0, 1, 1), 5)), ("wt_better", 0)), [1, 0])
        self.assertEqual(last(*weighed(3, ((0, 1, 1), 5), ((1, 1, 1), 5)), ("wt_better", 1)), [1, 0])

    def test_of_eight_weighings(self):
        # Without (1, 0) the table has 5 and 6; with both things on a pan the determinant is 30 + 5 + 6.
        self.assertEqual(last(*weighed(2, *EIGHT), ("wt_better", 0)), [4, 41])
        self.assertEqual(last(*weighed(2, *EIGHT), ("wt_better", 7)), [5, 36])

    def test_one_that_is_not_there(self):
        for r in (3, 8, GREATEST):
            self.assert_refused(UNEVEN, ("wt_better", r), -2, 2, 3)
        self.assert_refused([("wt_start", 3)], ("wt_better", 0), -2, 3, 0)

    def test_nothing_is_changed(self):
        self.assertEqual(self.assert_unchanged(UNEVEN, ("wt_better", 1), 2, 3), [5, 6])


if __name__ == "__main__":
    unittest.main()
