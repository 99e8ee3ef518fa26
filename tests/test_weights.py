"""Point 4: weights, how unsure they are, what they show, and what weighings are off by."""

import unittest

from tests.callers import GREATEST, ask, last, pans, weighed
from tests.unchanged import Unchanged

UNEVEN = weighed(2, ((1, 1), 10), ((1, 0), 3), ((1, 0), 4))
CROSSING = weighed(
    4, ((1, 1, 1, 1), 13), ((1, -1, 1, -1), 7), ((1, 1, -1, -1), 3), ((1, -1, -1, 1), -11)
)
NOT_ALL = weighed(3, ((1, 1, 1), 9), ((0, 1, 1), 5))


def weights(before, things):
    return ask(*before, *[("wt_weight", i) for i in range(things)])[len(before):]


def unsure(before, things):
    return ask(*before, *[("wt_sure", i) for i in range(things)])[len(before):]


class Weight(unittest.TestCase):
    def test_readings_that_agree_tell_what_things_weigh(self):
        self.assertEqual(weights(CROSSING, 4), [[0, 3, 1], [0, 5, 1], [0, 7, 1], [0, -2, 1]])

    def test_fractions(self):
        self.assertEqual(weights(UNEVEN, 2), [[0, 7, 2], [0, 13, 2]])
        before = weighed(2, ((1, 1), 100), ((1, -1), 11), ((1, 0), 50))
        self.assertEqual(weights(before, 2), [[0, 161, 3], [0, 89, 2]])

    def test_below_nothing_and_nothing(self):
        self.assertEqual(weights(weighed(1, ((1,), -5), ((1,), 2), ((1,), 1)), 1), [[0, -2, 3]])
        self.assertEqual(weights(weighed(1, ((-1,), 5), ((1,), 2), ((-1,), -1)), 1), [[0, -2, 3]])
        self.assertEqual(weights(weighed(1, ((1,), 0), ((1,), 0), ((1,), 0)), 1), [[0, 0, 1]])
        self.assertEqual(weights(weighed(2, ((1, 1), 7), ((1, -1), -7)), 2), [[0, 0, 1], [0, 7, 1]])

    def test_nothing_in_common(self):
        self.assertEqual(weights(weighed(1, *[((1,), y) for y in (1, 2, 3, 4, 5, 6, 7, 8)]), 1), [[0, 9, 2]])
        self.assertEqual(weights(weighed(1, *[((-1,), y) for y in (1, 2, 3, 4, 5, 6, 7, 8)]), 1), [[0, -9, 2]])

    def test_greatest_readings(self):
        before = weighed(2, ((1, 1), 10000), ((1, 0), -10000), ((0, 1), 10000))
        self.assertEqual(weights(before, 2), [[0, -20000, 3], [0, 40000, 3]])

    def test_a_thing_that_is_not_there(self):
        for i in (2, 5, GREATEST):
            self.assertEqual(last(*UNEVEN, ("wt_weight", i)), [-2])

    def test_not_all_can_be_told(self):
        for i in range(3):
            self.assertEqual(last(*NOT_ALL, ("wt_weight", i)), [-33])
        self.assertEqual(last(("wt_start", 1), ("wt_weight", 0)), [-33])

    def test_not_there_comes_first(self):
        self.assertEqual(last(*NOT_ALL, ("wt_weight", 3)), [-2])
        self.assertEqual(last(("wt_start", 1), ("wt_weight", 1)), [-2])


class Sure(unittest.TestCase):
    def test_fractions(self):
        self.assertEqual(unsure(UNEVEN, 2), [[0, 1, 2], [0, 3, 2]])
        self.assertEqual(unsure(weighed(2, ((1, 1), 100), ((1, -1), 11), ((1, 0), 50)), 2), [[0, 1, 3], [0, 1, 2]])

    def test_crossing_things_are_surest(self):
        self.assertEqual(unsure(CROSSING, 4), [[0, 1, 4]] * 4)

    def test_one_by_one(self):
        self.assertEqual(unsure(weighed(3, ((1, 0, 0), 7), ((0, -1, 0), 7), ((0, 0, 1), 7)), 3), [[0, 1, 1]] * 3)

    def test_readings_do_not_matter(self):
        before = UNEVEN + [("wt_read", 0, -77), ("wt_read", 2, 10000)]
        self.assertEqual(unsure(before, 2), unsure(UNEVEN, 2))

    def test_a_thing_that_is_not_there(self):
        for i in (2, 5, GREATEST):
            self.assertEqual(last(*UNEVEN, ("wt_sure", i)), [-2])

    def test_not_all_can_be_told(self):
        for i in range(3):
            self.assertEqual(last(*NOT_ALL, ("wt_sure", i)), [-33])
        self.assertEqual(last(("wt_start", 5), ("wt_sure", 4)), [-33])

    def test_not_there_comes_first(self):
        self.assertEqual(last(*NOT_ALL, ("wt_sure", 3)), [-2])
        self.assertEqual(last(("wt_start", 5), ("wt_sure", 5)), [-2])


class All(unittest.TestCase):
    def test_together(self):
        self.assertEqual(last(*UNEVEN, ("wt_all",)), [0, 2, 1])
        self.assertEqual(last(*weighed(2, ((1, 1), 100), ((1, -1), 11), ((1, 0), 50)), ("wt_all",)), [0, 5, 6])
        self.assertEqual(last(*CROSSING, ("wt_all",)), [0, 1, 1])

    def test_one_thing(self):
        for m in range(1, 9):
            self.assertEqual(last(*weighed(1, *[((-1,), 3)] * m), ("wt_all",)), [0, 1, m])

    def test_not_all_can_be_told(self):
        self.assertEqual(last(*NOT_ALL, ("wt_all",)), [-33])
        for n in (1, 5):
            self.assertEqual(last(("wt_start", n), ("wt_all",)), [-33])

    def test_dropped_and_weighed_again(self):
        calls = [("wt_drop", 0), ("wt_all",), ("wt_weigh", 4, 1), ("wt_all",)]
        self.assertEqual(ask(*UNEVEN, *calls)[4:], [[2], [-33], [2], [0, 2, 1]])


class Both(Unchanged):
    def test_fractions(self):
        self.assertEqual(last(*UNEVEN, ("wt_both", 0, 1)), [0, 3, 1])
        self.assertEqual(last(*weighed(2, ((1, 1), 9), ((1, -1), 1), ((1, 0), 5)), ("wt_both", 0, 1)), [0, 5, 6])
        self.assertEqual(last(*weighed(2, *[((1, -1), 9)] * 3, ((1, 0), 1)), ("wt_both", 0, 1)), [0, 1, 3])
        self.assertEqual(last(*CROSSING, ("wt_both", 1, 3)), [0, 1, 2])

    def test_of_three_things(self):
        # The inverse is ((1, 0, -1), (0, 1, 0), (-1, 0, 2)).
        before = weighed(3, ((1, 0, 0), 5), ((0, 1, 0), 6), ((1, 0, 1), 7))
        for i, j, much in ((0, 1, 2), (0, 2, 5), (1, 2, 3)):
            self.assertEqual(last(*before, ("wt_both", i, j)), [0, much, 1])
            self.assertEqual(last(*before, ("wt_both", j, i)), [0, much, 1])

    def test_weighed_against_each_other_it_is_surer_than_each(self):
        before = weighed(2, *[((1, -1), 9)] * 7, ((1, 1), 1))
        self.assertEqual(ask(*before, ("wt_sure", 0), ("wt_both", 0, 1))[9:], [[0, 2, 7], [0, 1, 7]])

    def test_a_thing_that_is_not_there(self):
        for i, j in ((0, 2), (2, 0), (2, 2), (GREATEST, 1), (GREATEST, GREATEST)):
            self.assert_refused(UNEVEN, ("wt_both", i, j), -2, 2, 3)
            self.assert_refused(UNEVEN[:2], ("wt_both", i, j), -2, 2, 1)

    def test_one_thing_twice(self):
        for i in (0, 1):
            self.assert_refused(UNEVEN, ("wt_both", i, i), -22, 2, 3)
            self.assert_refused(UNEVEN[:2], ("wt_both", i, i), -22, 2, 1)
        self.assertEqual(last(("wt_start", 1), ("wt_both", 0, 0)), [-22])

    def test_not_all_can_be_told(self):
        for i, j in ((0, 1), (1, 2), (2, 0)):
            self.assert_refused(NOT_ALL, ("wt_both", i, j), -33, 3, 2)
        self.assertEqual(last(("wt_start", 2), ("wt_both", 0, 1)), [-33])


class Expected(Unchanged):
    def test_each_number_of_pans(self):
        shown = {1: (7, 2), 2: (-7, 2), 3: (13, 2), 6: (-13, 2), 4: (10, 1), 8: (-10, 1), 5: (3, 1), 7: (-3, 1)}
        for p, (above, below) in shown.items():
            self.assertEqual(last(*UNEVEN, ("wt_expected", p)), [0, above, below])

    def test_four_things(self):
        for counts, much in (((1, 1, 1, 1), 13), ((0, 0, 0, -1), 2), ((-1, 1, 0, 1), 0), ((1, 0, -1, 1), -6)):
            self.assertEqual(last(*CROSSING, ("wt_expected", pans(*counts))), [0, much, 1])

    def test_nothing(self):
        before = weighed(2, ((1, 1), 7), ((1, -1), 0), ((1, -1), 0))
        asked = [("wt_expected", p) for p in (5, 7, 1)]
        self.assertEqual(ask(*before, *asked)[4:], [[0, 0, 1], [0, 0, 1], [0, 7, 2]])

    def test_beyond_what_a_reading_may_be(self):
        before = weighed(2, ((1, 0), 10000), ((0, 1), 10000))
        asked = [("wt_expected", 4), ("wt_expected", 8)]
        self.assertEqual(ask(*before, *asked)[3:], [[0, 20000, 1], [0, -20000, 1]])

    def test_pans_told_wrongly(self):
        for p in (0, 9, 10, 243, GREATEST):
            self.assert_refused(UNEVEN, ("wt_expected", p), -22, 2, 3)
            self.assert_refused(UNEVEN[:2], ("wt_expected", p), -22, 2, 1)

    def test_not_all_can_be_told(self):
        # Thing 0 can be told here, what the other two show together too: but not all.
        for p in (1, 12, 26):
            self.assert_refused(NOT_ALL, ("wt_expected", p), -33, 3, 2)
        self.assertEqual(last(("wt_start", 1), ("wt_expected", 2)), [-33])


class Off(Unchanged):
    def test_fractions(self):
        asked = [("wt_off", r) for r in range(3)]
        self.assertEqual(ask(*UNEVEN, *asked)[4:], [[0, 0, 1], [0, -1, 2], [0, 1, 2]])
        before = weighed(1, ((1,), -5), ((-1,), -2), ((1,), 1))
        self.assertEqual(ask(*before, *asked)[4:], [[0, -13, 3], [0, -8, 3], [0, 5, 3]])

    def test_readings_that_agree(self):
        self.assertEqual(ask(*CROSSING, *[("wt_off", r) for r in range(4)])[5:], [[0, 0, 1]] * 4)

    def test_turned_it_is_off_the_other_way(self):
        calls = [("wt_turn", 1), ("wt_off", 1), ("wt_off", 2)]
        self.assertEqual(ask(*UNEVEN, *calls)[5:], [[0, 1, 2], [0, 1, 2]])

    def test_one_that_is_not_there(self):
        for r in (3, 8, GREATEST):
            self.assert_refused(UNEVEN, ("wt_off", r), -2, 2, 3)
        self.assert_refused(NOT_ALL, ("wt_off", 2), -2, 3, 2)
        self.assertEqual(last(("wt_start", 1), ("wt_off", 0)), [-2])

    def test_not_all_can_be_told(self):
        for r in (0, 1):
            self.assert_refused(NOT_ALL, ("wt_off", r), -33, 3, 2)


class Rest(Unchanged):
    def test_fractions(self):
        self.assertEqual(last(*UNEVEN, ("wt_rest",)), [0, 1, 2])
        self.assertEqual(last(*weighed(1, ((1,), -5), ((-1,), -2), ((1,), 1)), ("wt_rest",)), [0, 86, 3])
        self.assertEqual(last(*weighed(2, ((1, 1), 9), ((1, 0), 3), ((0, 1), 5)), ("wt_rest",)), [0, 1, 3])

    def test_nothing(self):
        self.assertEqual(last(*CROSSING, ("wt_rest",)), [0, 0, 1])
        self.assertEqual(last(*weighed(1, ((1,), 7)), ("wt_rest",)), [0, 0, 1])

    def test_greatest(self):
        before = weighed(1, *[((1,), y) for y in (10000, -10000) * 4])
        self.assertEqual(last(*before, ("wt_rest",)), [0, 800000000, 1])

    def test_not_all_can_be_told(self):
        self.assert_refused(NOT_ALL, ("wt_rest",), -33, 3, 2)
        for n in (1, 5):
            self.assertEqual(last(("wt_start", n), ("wt_rest",)), [-33])


if __name__ == "__main__":
    unittest.main()
