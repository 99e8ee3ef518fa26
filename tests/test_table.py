"""Point 3: the table, what crosses, what can be told, the determinant."""

import unittest

from tests.callers import GREATEST, ask, last, weighed

CROSSING = [((1, 1, 1, 1), 0), ((1, -1, 1, -1), 0), ((1, 1, -1, -1), 0), ((1, -1, -1, 1), 0)]


class Together(unittest.TestCase):
    def test_each_two_things(self):
        before = weighed(3, ((1, 1, 0), 5), ((1, -1, 0), 6), ((-1, -1, 1), 7), ((-1, 0, -1), 8), ((1, 1, 0), 9))
        table = [[5, 2, 0], [2, 4, -1], [0, -1, 2]]
        for i in range(3):
            for j in range(3):
                self.assertEqual(last(*before, ("wt_together", i, j)), [0, table[i][j]])

    def test_none_weighed(self):
        self.assertEqual(last(("wt_start", 2), ("wt_together", 0, 1)), [0, 0])
        self.assertEqual(last(("wt_start", 2), ("wt_together", 1, 1)), [0, 0])

    def test_eight_weighings(self):
        before = weighed(2, *[((1, -1), 0)] * 8)
        self.assertEqual(last(*before, ("wt_together", 0, 1)), [0, -8])
        self.assertEqual(last(*before, ("wt_together", 1, 1)), [0, 8])

    def test_things_that_are_not_there(self):
        before = weighed(2, ((1, 1), 5))
        for i, j in ((2, 0), (0, 2), (2, 2), (GREATEST, 1), (1, GREATEST)):
            self.assertEqual(last(*before, ("wt_together", i, j)), [-2])


class Crosses(unittest.TestCase):
    def test_without_weighings_all_pairs(self):
        for n, pairs in ((1, 0), (2, 1), (3, 3), (4, 6), (5, 10)):
            self.assertEqual(last(("wt_start", n), ("wt_crosses",)), [pairs])

    def test_some(self):
        before = weighed(3, ((1, 1, 0), 5), ((1, -1, 0), 6), ((-1, -1, 1), 7), ((-1, 0, -1), 8), ((1, 1, 0), 9))
        self.assertEqual(last(*before, ("wt_crosses",)), [1])

    def test_all_and_none(self):
        self.assertEqual(last(*weighed(4, *CROSSING), ("wt_crosses",)), [6])
        self.assertEqual(last(*weighed(4, CROSSING[1]), ("wt_crosses",)), [0])

    def test_a_thing_on_no_pan_crosses_each_other(self):
        self.assertEqual(last(*weighed(5, ((1, 1, 0, -1, 1), 0)), ("wt_crosses",)), [4])


class Can(unittest.TestCase):
    def test_without_weighings_none(self):
        for n in (1, 2, 3, 4, 5):
            self.assertEqual(last(("wt_start", n), ("wt_can",)), [0, 0, 0, 0, 0, 0])

    def test_one_by_one(self):
        before = weighed(5, ((0, 0, 0, 0, 1), 3), ((0, -1, 0, 0, 0), 4))
        self.assertEqual(last(*before, ("wt_can",)), [2, 0, 1, 0, 0, 1])

    def test_all(self):
        self.assertEqual(last(*weighed(1, ((-1,), 3)), ("wt_can",)), [1, 1, 0, 0, 0, 0])
        self.assertEqual(last(*weighed(4, *CROSSING), ("wt_can",)), [4, 1, 1, 1, 1, 0])
        before = weighed(5, *[([int(k <= i) for k in range(5)], 1) for i in range(5)])
        self.assertEqual(last(*before, ("wt_can",)), [5, 1, 1, 1, 1, 1])

    def test_one_told_by_two_weighings_while_others_are_not(self):
        before = weighed(3, ((1, 1, 1), 9), ((0, 1, 1), 5))
        self.assertEqual(last(*before, ("wt_can",)), [1, 1, 0, 0, 0, 0])
        before = weighed(3, ((1, 1, 1), 9), ((1, 1, 0), 5))
        self.assertEqual(last(*before, ("wt_can",)), [1, 0, 0, 1, 0, 0])

    def test_two_told_together_while_others_are_not(self):
        before = weighed(4, ((1, 1, 1, -1), 9), ((1, -1, 1, -1), 5), ((0, 0, 1, -1), 1))
        self.assertEqual(last(*before, ("wt_can",)), [2, 1, 1, 0, 0, 0])

    def test_things_always_beside_each_other(self):
        before = weighed(2, ((1, 1), 9), ((-1, -1), 5), ((1, 1), 4))
        self.assertEqual(last(*before, ("wt_can",)), [0, 0, 0, 0, 0, 0])

    def test_a_circle_of_differences(self):
        before = weighed(3, ((1, -1, 0), 1), ((0, 1, -1), 1), ((-1, 0, 1), -2))
        self.assertEqual(last(*before, ("wt_can",)), [0, 0, 0, 0, 0, 0])
        self.assertEqual(last(*before, ("wt_weigh", 9, 4), ("wt_can",)), [3, 1, 1, 1, 0, 0])


class Whole(unittest.TestCase):
    def test_none_weighed(self):
        for n in (1, 5):
            self.assertEqual(last(("wt_start", n), ("wt_whole",)), [0, 0])

    def test_one_thing(self):
        for m in range(1, 9):
            self.assertEqual(last(*weighed(1, *[((1,), 3)] * m), ("wt_whole",)), [0, m])

    def test_crossing_things_have_the_greatest(self):
        self.assertEqual(last(*weighed(4, *CROSSING), ("wt_whole",)), [0, 256])

    def test_five_crossing_in_eight_weighings(self):
        rows = [[-1 if bin(r & k).count("1") % 2 else 1 for k in range(1, 6)] for r in range(8)]
        before = weighed(5, *[(row, 0) for row in rows])
        self.assertEqual(ask(*before, ("wt_whole",), ("wt_crosses",))[-2:], [[0, 32768], [10]])

    def test_table_that_is_not_crossing(self):
        before = weighed(3, ((1, 1, 0), 5), ((1, -1, 0), 6), ((-1, -1, 1), 7), ((-1, 0, -1), 8), ((1, 1, 0), 9))
        self.assertEqual(last(*before, ("wt_whole",)), [0, 5 * (4 * 2 - 1) - 2 * (2 * 2)])

    def test_not_all_can_be_told(self):
        for before in (
            weighed(2, ((1, 1), 9), ((-1, -1), 5)),
            weighed(3, ((1, -1, 0), 1), ((0, 1, -1), 1), ((-1, 0, 1), -2)),
            weighed(2, ((0, 1), 9), ((0, -1), 5)),
            weighed(2, ((1, 0), 9), ((-1, 0), 5)),
        ):
            self.assertEqual(last(*before, ("wt_whole",)), [0, 0])


if __name__ == "__main__":
    unittest.main()
