"""Points 1 and 2: starts, weighings, and what is refused of them."""

import unittest

from tests.callers import GREATEST, GREATEST_Y, LEAST_Y, ask, last, look, look_at_things, pans, weighed
from tests.unchanged import Unchanged

EIGHT = [((1, 0), 1), ((0, 1), 2), ((1, 1), 3), ((1, -1), 4), ((-1, 0), 5), ((0, -1), 6), ((-1, -1), 7), ((-1, 1), 8)]


class Start(Unchanged):
    def test_one_to_five_things(self):
        for n in (1, 2, 3, 4, 5):
            self.assertEqual(ask(("wt_start", n)), [[0]])

    def test_other_numbers_are_refused(self):
        for n in (0, 6, 7, 255, GREATEST):
            self.assertEqual(ask(("wt_start", n)), [[-22]])

    def test_after_refused_starts_another_one(self):
        self.assertEqual(
            ask(("wt_start", 0), ("wt_start", 6), ("wt_start", 2), ("wt_weigh", 8, 5), ("wt_weigh", 9, 5)),
            [[-22], [-22], [0], [0], [-22]],
        )

    def test_there_are_no_weighings_at_first(self):
        for n in (1, 5):
            self.assertEqual(last(("wt_start", n), ("wt_told", 0)), [-2])

    def test_again_there_are_other_things_and_no_weighings(self):
        before = weighed(2, *EIGHT)
        self.assertEqual(
            ask(*before, ("wt_start", 3), ("wt_told", 0), ("wt_together", 2, 2), ("wt_weigh", 26, 1))[len(before):],
            [[0], [-2], [0, 0], [0]],
        )
        self.assertEqual(
            ask(*before, ("wt_start", 1), ("wt_together", 1, 1), ("wt_weigh", 3, 1), ("wt_weigh", 2, 1))[len(before):],
            [[0], [-2], [-22], [0]],
        )

    def test_again_with_as_many_things(self):
        before = weighed(2, *EIGHT)
        fresh = look(2, 0)
        self.assertEqual(ask(*before, ("wt_start", 2), *fresh)[len(before):], ask(("wt_start", 2), *fresh))

    def test_again_but_refused_all_stays(self):
        for n in (0, 6, GREATEST):
            self.assert_refused(weighed(2, *EIGHT), ("wt_start", n), -22, 2, 8)


class Weigh(Unchanged):
    def test_its_number_is_behind_the_others(self):
        self.assertEqual(ask(*weighed(2, *EIGHT)), [[0], [0], [1], [2], [3], [4], [5], [6], [7]])

    def test_pans_and_reading_are_kept(self):
        before = weighed(2, *EIGHT)
        told = ask(*before, *[("wt_told", r) for r in range(8)])[len(before):]
        self.assertEqual(told, [[1, 1], [3, 2], [4, 3], [7, 4], [2, 5], [6, 6], [8, 7], [5, 8]])

    def test_each_number_of_pans_that_is_right(self):
        for n in (1, 2, 3, 4, 5):
            for p in range(1, 3 ** n):
                self.assertEqual(ask(("wt_start", n), ("wt_weigh", p, 0), ("wt_told", 0)), [[0], [0], [p, 0]])

    def test_pans_told_wrongly(self):
        for n in (1, 2, 3, 4, 5):
            for p in (0, 3 ** n, 3 ** n + 1, 243, GREATEST):
                self.assert_refused([("wt_start", n)], ("wt_weigh", p, 0), -22, n, 0)

    def test_readings_to_ten_thousand(self):
        for y in (-10000, -9999, -1, 0, 1, 9999, 10000):
            self.assertEqual(last(("wt_start", 1), ("wt_weigh", 1, y), ("wt_told", 0)), [1, y])

    def test_readings_beyond(self):
        for y in (-10001, 10001, LEAST_Y, GREATEST_Y):
            self.assert_refused([("wt_start", 1)], ("wt_weigh", 1, y), -22, 1, 0)

    def test_a_ninth(self):
        self.assert_refused(weighed(2, *EIGHT), ("wt_weigh", 1, 0), -28, 2, 8)

    def test_a_ninth_that_is_wrong_too(self):
        for p, y in ((0, 0), (9, 0), (1, 10001), (1, -10001), (0, 10001)):
            self.assert_refused(weighed(2, *EIGHT), ("wt_weigh", p, y), -22, 2, 8)

    def test_once_one_is_dropped_there_is_room(self):
        before = weighed(2, *EIGHT)
        self.assertEqual(
            ask(*before, ("wt_drop", 3), ("wt_weigh", 1, 9), ("wt_weigh", 1, 9), ("wt_told", 7))[len(before):],
            [[7], [7], [-28], [1, 9]],
        )


class Drop(Unchanged):
    def test_those_behind_are_numbered_one_less(self):
        before = weighed(2, *EIGHT[:4])
        seen = [("wt_told", r) for r in range(4)]
        expected = {
            0: [[3], [3, 2], [4, 3], [7, 4], [-2]],
            1: [[3], [1, 1], [4, 3], [7, 4], [-2]],
            2: [[3], [1, 1], [3, 2], [7, 4], [-2]],
            3: [[3], [1, 1], [3, 2], [4, 3], [-2]],
        }
        for r, answered in expected.items():
            self.assertEqual(ask(*before, ("wt_drop", r), *seen)[len(before):], answered)

    def test_till_none_is_there(self):
        before = weighed(2, *EIGHT[:3])
        drops = [("wt_drop", 0)] * 4
        self.assertEqual(ask(*before, *drops, ("wt_whole",))[len(before):], [[2], [1], [0], [-2], [0, 0]])

    def test_it_counts_no_more(self):
        kept = [EIGHT[0], EIGHT[2]]
        before = weighed(2, *EIGHT[:3])
        seen = look(2, 2)
        self.assertEqual(ask(*before, ("wt_drop", 1), *seen)[len(before) + 1:], ask(*weighed(2, *kept), *seen)[3:])

    def test_one_that_is_not_there(self):
        for r in (3, 4, 8, GREATEST):
            self.assert_refused(weighed(2, *EIGHT[:3]), ("wt_drop", r), -2, 2, 3)
        self.assert_refused([("wt_start", 2)], ("wt_drop", 0), -2, 2, 0)


class Read(Unchanged):
    def test_what_it_was(self):
        before = weighed(2, *EIGHT[:3])
        calls = [("wt_read", 1, -50), ("wt_read", 1, -50), ("wt_read", 1, 0), ("wt_told", 1)]
        self.assertEqual(ask(*before, *calls)[len(before):], [[0, 2], [0, -50], [0, -50], [3, 0]])

    def test_the_others_stay(self):
        before = weighed(2, *EIGHT[:3])
        seen = [("wt_told", r) for r in range(4)]
        answered = ask(*before, ("wt_read", 1, 77), *seen)[len(before):]
        self.assertEqual(answered, [[0, 2], [1, 1], [3, 77], [4, 3], [-2]])

    def test_readings_to_ten_thousand(self):
        for y in (-10000, 10000):
            self.assertEqual(last(*weighed(1, ((1,), 5)), ("wt_read", 0, y), ("wt_told", 0)), [1, y])

    def test_readings_beyond(self):
        for y in (-10001, 10001, LEAST_Y, GREATEST_Y):
            self.assert_refused(weighed(2, *EIGHT[:3]), ("wt_read", 2, y), -22, 2, 3)

    def test_one_that_is_not_there(self):
        for r in (3, GREATEST):
            self.assert_refused(weighed(2, *EIGHT[:3]), ("wt_read", r, 0), -2, 2, 3)

    def test_not_there_comes_first(self):
        for y in (-10001, 10001, LEAST_Y, GREATEST_Y):
            self.assert_refused(weighed(2, *EIGHT[:3]), ("wt_read", 3, y), -2, 2, 3)

    def test_the_weights_follow(self):
        before = weighed(2, ((1, 1), 10), ((1, -1), 4))
        calls = [("wt_weight", 0), ("wt_weight", 1), ("wt_read", 1, 5), ("wt_weight", 0), ("wt_weight", 1)]
        self.assertEqual(ask(*before, *calls)[3:], [[0, 7, 1], [0, 3, 1], [0, 4], [0, 15, 2], [0, 5, 2]])


class Told(Unchanged):
    def test_one_that_is_not_there(self):
        self.assertEqual(last(("wt_start", 1), ("wt_told", 0)), [-2])
        for r in (3, 8, GREATEST):
            self.assert_refused(weighed(2, *EIGHT[:3]), ("wt_told", r), -2, 2, 3)

    def test_pans_come_first(self):
        self.assertEqual(last(*weighed(5, ((0, -1, 0, 1, 1), -345)), ("wt_told", 0)), [6 + 27 + 81, -345])


class Turn(Unchanged):
    def test_pans_and_reading_are_exchanged(self):
        before = weighed(5, ((1, 1, 1, 1, 1), 3), ((0, -1, 0, 1, 1), -345), ((0, 0, 0, 0, 1), 0))
        calls = [("wt_turn", 1), ("wt_told", 1), ("wt_turn", 2), ("wt_told", 2), ("wt_told", 0)]
        first = pans(0, 1, 0, -1, -1)
        self.assertEqual(
            ask(*before, *calls)[len(before):],
            [[first], [first, 345], [162], [162, 0], [121, 3]],
        )

    def test_each_number_of_pans_turned_once_and_twice(self):
        for p in range(1, 243):
            counts = [(0, 1, -1)[p // 3 ** thing % 3] for thing in range(5)]
            turned = pans(*[-count for count in counts])
            calls = [("wt_start", 5), ("wt_weigh", p, 10000), ("wt_turn", 0), ("wt_told", 0), ("wt_turn", 0)]
            self.assertEqual(ask(*calls, ("wt_told", 0))[2:], [[turned], [turned, -10000], [p], [p, 10000]])

    def test_turned_pans_tell_the_same(self):
        before = weighed(3, ((1, 1, 0), 5), ((0, 1, -1), -8), ((1, 0, 1), 3), ((1, 1, 1), 7))
        seen = look_at_things(3)
        for r in range(4):
            self.assertEqual(ask(*before, ("wt_turn", r), *seen)[6:], ask(*before, *seen)[5:])

    def test_one_that_is_not_there(self):
        for r in (3, GREATEST):
            self.assert_refused(weighed(2, *EIGHT[:3]), ("wt_turn", r), -2, 2, 3)


if __name__ == "__main__":
    unittest.main()
