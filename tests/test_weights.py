"""Point 4: weights and how unsure they are."""

import unittest

from tests.callers import GREATEST, ask, last, weighed

UNEVEN = weighed(2, ((1, 1), 10), ((1, 0), 3), ((1, 0), 4))
CROSSING = weighed(
    4, ((1, 1, 1, 1), 13), ((1, -1, 1, -1), 7), ((1, 1, -1, -1), 3), ((1, -1, -1, 1), -11)
)
NOT_ALL = weighed(3, ((1, 1, 1), 9), ((0, 1, 1), 5))


def weights(before, things):
    return ask(*before, *[("wt_weight", i) for i in range(things)])[len(before):]


def unsure(before, things):
    return ask(*before, *[("wt_sure", i) for i in range(things)])[len(before):]


class Weight(unittest.TestCase):
    def test_readings_that_agree_tell_what_things_weigh(self):
        self.assertEqual(weights(CROSSING, 4), [[0, 3, 1], [0, 5, 1], [0, 7, 1], [0, -2, 1]])

    def test_fractions(self):
        self.assertEqual(weights(UNEVEN, 2), [[0, 7, 2], [0, 13, 2]])
        before = weighed(2, ((1, 1), 100), ((1, -1), 11), ((1, 0), 50))
        self.assertEqual(weights(before, 2), [[0, 161, 3], [0, 89, 2]])

    def test_below_nothing_and_nothing(self):
        self.assertEqual(weights(weighed(1, ((1,), -5), ((1,), 2), ((1,), 1)), 1), [[0, -2, 3]])
        self.assertEqual(weights(weighed(1, ((-1,), 5), ((1,), 2), ((-1,), -1)), 1), [[0, -2, 3]])
        self.assertEqual(weights(weighed(1, ((1,), 0), ((1,), 0), ((1,), 0)), 1), [[0, 0, 1]])
        self.assertEqual(weights(weighed(2, ((1, 1), 7), ((1, -1), -7)), 2), [[0, 0, 1], [0, 7, 1]])

    def test_nothing_in_common(self):
        self.assertEqual(weights(weighed(1, *[((1,), y) for y in (1, 2, 3, 4, 5, 6, 7, 8)]), 1), [[0, 9, 2]])
        self.assertEqual(weights(weighed(1, *[((-1,), y) for y in (1, 2, 3, 4, 5, 6, 7, 8)]), 1), [[0, -9, 2]])

    def test_greatest_readings(self):
        before = weighed(2, ((1, 1), 10000), ((1, 0), -10000), ((0, 1), 10000))
        self.assertEqual(weights(before, 2), [[0, -20000, 3], [0, 40000, 3]])

    def test_a_thing_that_is_not_there(self):
        for i in (2, 5, GREATEST):
            self.assertEqual(last(*UNEVEN, ("wt_weight", i)), [-2])

    def test_not_all_can_be_told(self):
        for i in range(3):
            self.assertEqual(last(*NOT_ALL, ("wt_weight", i)), [-33])
        self.assertEqual(last(("wt_start", 1), ("wt_weight", 0)), [-33])

    def test_not_there_comes_first(self):
        self.assertEqual(last(*NOT_ALL, ("wt_weight", 3)), [-2])
        self.assertEqual(last(("wt_start", 1), ("wt_weight", 1)), [-2])


class Sure(unittest.TestCase):
    def test_fractions(self):
        self.assertEqual(unsure(UNEVEN, 2), [[0, 1, 2], [0, 3, 2]])
        self.assertEqual(unsure(weighed(2, ((1, 1), 100), ((1, -1), 11), ((1, 0), 50)), 2), [[0, 1, 3], [0, 1, 2]])

    def test_crossing_things_are_surest(self):
        self.assertEqual(unsure(CROSSING, 4), [[0, 1, 4]] * 4)

    def test_one_by_one(self):
        self.assertEqual(unsure(weighed(3, ((1, 0, 0), 7), ((0, -1, 0), 7), ((0, 0, 1), 7)), 3), [[0, 1, 1]] * 3)

    def test_readings_do_not_matter(self):
        before = UNEVEN + [("wt_read", 0, -77), ("wt_read", 2, 10000)]
        self.assertEqual(unsure(before, 2), unsure(UNEVEN, 2))

    def test_a_thing_that_is_not_there(self):
        for i in (2, 5, GREATEST):
            self.assertEqual(last(*UNEVEN, ("wt_sure", i)), [-2])

    def test_not_all_can_be_told(self):
        for i in range(3):
            self.assertEqual(last(*NOT_ALL, ("wt_sure", i)), [-33])
        self.assertEqual(last(("wt_start", 5), ("wt_sure", 4)), [-33])

    def test_not_there_comes_first(self):
        self.assertEqual(last(*NOT_ALL, ("wt_sure", 3)), [-2])
        self.assertEqual(last(("wt_start", 5), ("wt_sure", 5)), [-2])


class All(unittest.TestCase):
    def test_together(self):
        self.assertEqual(last(*UNEVEN, ("wt_all",)), [0, 2, 1])
        self.assertEqual(last(*weighed(2, ((1, 1), 100), ((1, -1), 11), ((1, 0), 50)), ("wt_all",)), [0, 5, 6])
        self.assertEqual(last(*CROSSING, ("wt_all",)), [0, 1, 1])

    def test_one_thing(self):
        for m in range(1, 9):
            self.assertEqual(last(*weighed(1, *[((-1,), 3)] * m), ("wt_all",)), [0, 1, m])

    def test_not_all_can_be_told(self):
        self.assertEqual(last(*NOT_ALL, ("wt_all",)), [-33])
        for n in (1, 5):
            self.assertEqual(last(("wt_start", n), ("wt_all",)), [-33])

    def test_dropped_and_weighed_again(self):
        calls = [("wt_drop", 0), ("wt_all",), ("wt_weigh", 4, 1), ("wt_all",)]
        self.assertEqual(ask(*UNEVEN, *calls)[4:], [[2], [-33], [2], [0, 2, 1]])


if __name__ == "__main__":
    unittest.main()
