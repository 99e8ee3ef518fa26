"""Points 1, 6 and 7: readings mended, changes taken back and done again."""

import unittest

from tests.callers import GREATEST, ask, last, look, weighed
from tests.unchanged import Unchanged

BACK = ("wt_back",)
AGAIN = ("wt_again",)
STATE = ("wt_state",)

UNEVEN = weighed(2, ((1, 1), 10), ((1, 0), 3), ((1, 0), 4))
CHANGES = (("wt_weigh", 7, 8), ("wt_drop", 1), ("wt_read", 1, 77), ("wt_turn", 1), ("wt_mend", 1))
NO_CHANGES = (
    ("wt_told", 1), ("wt_together", 0, 1), ("wt_crosses",), ("wt_can",), ("wt_whole",), ("wt_weight", 0),
    ("wt_sure", 0), ("wt_all",), ("wt_both", 0, 1), ("wt_expected", 4), ("wt_off", 1), ("wt_rest",), ("wt_next",),
    ("wt_surest",), ("wt_spare",), ("wt_better", 1), STATE,
)
REFUSED = (
    ("wt_start", 0), ("wt_start", 6), ("wt_weigh", 9, 0), ("wt_weigh", 1, 10001), ("wt_drop", 3), ("wt_read", 3, 0),
    ("wt_read", 0, 10001), ("wt_turn", 3), ("wt_mend", 3), ("wt_mend", 0),
)


def answered(before, *calls):
    return ask(*before, *calls)[len(before):]


def told(many):
    return [("wt_told", r) for r in range(many)]


class Mend(Unchanged):
    def test_what_all_others_tell(self):
        self.assertEqual(answered(UNEVEN, ("wt_mend", 1), *told(3)), [[0, 4], [4, 10], [1, 4], [1, 4]])
        self.assertEqual(answered(UNEVEN, ("wt_mend", 2), *told(3)), [[0, 3], [4, 10], [1, 3], [1, 3]])

    def test_below_nothing_and_nothing(self):
        self.assertEqual(last(*weighed(1, ((1,), 5), ((-1,), 3)), ("wt_mend", 1)), [0, -5])
        self.assertEqual(last(*weighed(1, ((1,), 0), ((-1,), 3)), ("wt_mend", 1)), [0, 0])
        self.assertEqual(last(*weighed(2, ((1, 0), 5), ((0, 1), 5), ((1, -1), 3)), ("wt_mend", 2)), [0, 0])

    def test_a_whole_number_though_the_determinant_is_not_1(self):
        before = weighed(2, ((1, 1), 10), ((1, -1), 4), ((1, 0), 0))
        self.assertEqual(answered(before, ("wt_mend", 2), ("wt_told", 2)), [[0, 7], [1, 7]])
        before = weighed(1, ((1,), 4), ((1,), 7), ((1,), 1), ((-1,), 1))
        self.assertEqual(last(*before, ("wt_mend", 3)), [0, -4])

    def test_a_whole_number_of_weights_that_are_none(self):
        before = weighed(2, ((1, 1), 9), ((1, -1), 4), ((1, 1), 0))
        self.assertEqual(last(*before, ("wt_mend", 2)), [0, 9])

    def test_to_ten_thousand(self):
        for first, second, counts, reading in (
            (5000, 5000, (1, 1), 10000), (5000, 5000, (-1, -1), -10000), (-5000, -5000, (1, 1), -10000),
            (5000, -4999, (1, -1), 9999), (5000, -5000, (-1, 1), -10000),
        ):
            before = weighed(2, ((1, 0), first), ((0, 1), second), (counts, 3))
            self.assertEqual(answered(before, ("wt_mend", 2), ("wt_told", 2))[0], [0, reading])
            self.assertEqual(answered(before, ("wt_mend", 2), ("wt_told", 2))[1][1], reading)

    def test_beyond_ten_thousand(self):
        for first, second, counts in (
            (5000, 5001, (1, 1)), (5000, 5001, (-1, -1)), (-5001, -5000, (1, 1)), (5000, -5001, (1, -1)),
            (10000, 10000, (1, 1)), (-10000, 10000, (1, -1)),
        ):
            before = weighed(2, ((1, 0), first), ((0, 1), second), (counts, 3))
            self.assert_refused(before, ("wt_mend", 2), -75, 2, 3)

    def test_no_whole_number(self):
        self.assert_refused(weighed(1, ((1,), 1), ((1,), 2), ((1,), 9)), ("wt_mend", 2), -75, 1, 3)
        self.assert_refused(weighed(1, ((1,), 0), ((1,), 1), ((-1,), 0)), ("wt_mend", 2), -75, 1, 3)
        self.assert_refused(weighed(1, ((1,), 0), ((1,), 1), ((-1,), -1)), ("wt_mend", 2), -75, 1, 3)
        before = weighed(2, ((1, 1), 10000), ((1, -1), 9999), ((1, 0), 0))
        self.assert_refused(before, ("wt_mend", 2), -75, 2, 3)

    def test_that_is_its_reading(self):
        self.assert_refused(UNEVEN + [("wt_mend", 1)], ("wt_mend", 1), -17, 2, 3)
        self.assert_refused(UNEVEN + [("wt_mend", 1)], ("wt_mend", 2), -17, 2, 3)
        self.assert_refused(weighed(1, ((1,), 10000), ((-1,), -10000)), ("wt_mend", 1), -17, 1, 2)
        self.assert_refused(weighed(1, ((1,), 0), ((-1,), 0)), ("wt_mend", 0), -17, 1, 2)

    def test_without_it_not_all_can_be_told(self):
        self.assert_refused(UNEVEN, ("wt_mend", 0), -33, 2, 3)
        self.assert_refused(weighed(1, ((1,), 4)), ("wt_mend", 0), -33, 1, 1)
        self.assert_refused(weighed(3, ((1, 1, 0), 4), ((1, 1, 0), 5)), ("wt_mend", 0), -33, 3, 2)

    def test_one_that_is_not_there(self):
        for r in (3, 8, GREATEST):
            self.assert_refused(UNEVEN, ("wt_mend", r), -2, 2, 3)
        self.assert_refused([("wt_start", 2)], ("wt_mend", 0), -2, 2, 0)
        self.assert_refused(weighed(1, ((1,), 4)), ("wt_mend", 1), -2, 1, 1)

    def test_mended_back_and_again(self):
        calls = [("wt_mend", 1), STATE, BACK, ("wt_told", 1), STATE, AGAIN, ("wt_told", 1), STATE]
        self.assertEqual(
            answered(UNEVEN, *calls),
            [[0, 4], [3, 2, 4, 0], [3], [1, 3], [3, 2, 3, 1], [0], [1, 4], [3, 2, 4, 0]],
        )


class State(Unchanged):
    def test_at_first(self):
        for n in (1, 2, 3, 4, 5):
            self.assertEqual(last(("wt_start", n), STATE), [0, n, 0, 0])

    def test_each_change_counts(self):
        for change in CHANGES:
            weighings = {"wt_weigh": 4, "wt_drop": 2}.get(change[0], 3)
            self.assertEqual(last(*UNEVEN, change, STATE), [weighings, 2, 4, 0])

    def test_the_same_reading_is_a_change_too(self):
        calls = [("wt_read", 1, 3), STATE, BACK, STATE]
        self.assertEqual(answered(UNEVEN, *calls), [[0, 3], [3, 2, 4, 0], [3], [3, 2, 3, 1]])
        calls = [BACK, ("wt_read", 1, 3), STATE, AGAIN]
        self.assertEqual(answered(UNEVEN, *calls), [[2], [0, 3], [2, 2, 3, 0], [-2]])

    def test_what_changes_nothing_leaves_both_numbers(self):
        for before in (UNEVEN, UNEVEN + [("wt_turn", 0), ("wt_turn", 1), BACK, BACK]):
            for call in NO_CHANGES:
                self.assertGreaterEqual(self.assert_unchanged(before, call, 2, 3)[0], 0, call)

    def test_what_is_refused_leaves_both_numbers(self):
        for before in (UNEVEN, UNEVEN + [("wt_turn", 0), ("wt_turn", 1), BACK, BACK]):
            for call in REFUSED:
                self.assertLess(self.assert_unchanged(before, call, 2, 3)[0], 0, call)

    def test_a_ninth_weighing_leaves_both_numbers(self):
        before = weighed(1, *[((1,), y) for y in range(8)]) + [("wt_turn", 0), BACK]
        self.assert_refused(before, ("wt_weigh", 1, 1), -28, 1, 8)


class BackAndAgain(Unchanged):
    def test_there_is_none(self):
        self.assert_refused([("wt_start", 2)], BACK, -2, 2, 0)
        self.assert_refused([("wt_start", 2)], AGAIN, -2, 2, 0)
        self.assert_refused(UNEVEN, AGAIN, -2, 2, 3)
        self.assert_refused(UNEVEN + [BACK] * 3, BACK, -2, 2, 0)

    def test_each_change_taken_back_and_done_again(self):
        seen = look(2, 4)
        for change in CHANGES:
            changed = answered(UNEVEN, change, *seen)[1:]
            self.assertNotEqual(changed, answered(UNEVEN, *seen), change)
            back = answered(UNEVEN, change, BACK, *seen)
            self.assertEqual(back[1:], [[3]] + answered(UNEVEN, *seen), change)
            again = answered(UNEVEN, change, BACK, AGAIN, *seen)
            self.assertEqual(again[2:], [[0]] + changed, change)
            self.assertEqual(answered(UNEVEN, change, BACK, AGAIN, BACK, *seen)[4:], answered(UNEVEN, *seen), change)

    def test_all_changes_taken_back_one_behind_another(self):
        seen = told(5)
        steps = [UNEVEN]
        for change in CHANGES:
            steps.append(steps[-1] + [change])
        self.assertEqual([given[0] < 0 for given in answered(UNEVEN, *CHANGES)], [False] * 5)
        at_each = [answered(step, *seen) for step in steps]
        for taken in range(1, 6):
            back = answered(steps[5], *[BACK] * taken, *seen, STATE)
            self.assertEqual(back[:taken], [[7 - k] for k in range(taken)])
            self.assertEqual(back[taken:-1], at_each[5 - taken])
            self.assertEqual(back[-1][2:], [8 - taken, taken])
            for done in range(1, taken + 1):
                again = answered(steps[5] + [BACK] * taken, *[AGAIN] * done, *seen, STATE)
                self.assertEqual(again[:done], [[taken - 1 - k] for k in range(done)])
                self.assertEqual(again[done:-1], at_each[5 - taken + done])
                self.assertEqual(again[-1][2:], [8 - taken + done, taken - done])

    def test_a_drop_in_the_middle(self):
        calls = [("wt_drop", 1), *told(3), BACK, *told(3), AGAIN, *told(3)]
        whole = [[4, 10], [1, 3], [1, 4]]
        dropped = [[4, 10], [1, 4], [-2]]
        self.assertEqual(answered(UNEVEN, *calls), [[2]] + dropped + [[3]] + whole + [[0]] + dropped)

    def test_the_last_twenty_of_twenty_one(self):
        before = [("wt_start", 1), ("wt_weigh", 1, 0)] + [("wt_read", 0, y) for y in range(1, 21)]
        self.assertEqual(last(*before, STATE), [1, 1, 20, 0])
        backs = answered(before, *[BACK, ("wt_told", 0)] * 20)
        self.assertEqual(backs[0::2], [[k] for k in range(19, -1, -1)])
        self.assertEqual(backs[1::2], [[1, y] for y in range(19, -1, -1)])
        self.assert_refused(before + [BACK] * 20, BACK, -2, 1, 1)
        self.assertEqual(last(*before, *[BACK] * 20, STATE), [1, 1, 0, 20])

    def test_of_just_twenty_all(self):
        before = [("wt_start", 1), ("wt_weigh", 1, 0)] + [("wt_read", 0, y) for y in range(1, 20)]
        self.assertEqual(answered(before, STATE, *[BACK] * 20, STATE)[-1], [0, 1, 0, 20])

    def test_done_again_after_twenty_were_taken_back(self):
        before = [("wt_start", 1), ("wt_weigh", 1, 0)] + [("wt_read", 0, y) for y in range(1, 31)] + [BACK] * 20
        agains = answered(before, *[AGAIN, ("wt_told", 0)] * 20)
        self.assertEqual(agains[0::2], [[k] for k in range(19, -1, -1)])
        self.assertEqual(agains[1::2], [[1, y] for y in range(11, 31)])
        self.assert_refused(before + [AGAIN] * 20, AGAIN, -2, 1, 1)
        self.assertEqual(answered(before + [AGAIN] * 20, STATE, *[BACK] * 20, ("wt_told", 0))[-1], [1, 10])
        self.assertEqual(last(*before, *[AGAIN] * 20, STATE), [1, 1, 20, 0])

    def test_a_change_behind_leaves_nothing_to_do_again(self):
        for change in CHANGES:
            before = UNEVEN + [("wt_weigh", 7, 1), ("wt_turn", 0), BACK, BACK]
            self.assertEqual(last(*before, STATE), [3, 2, 3, 2])
            self.assertEqual(last(*before, change, STATE)[2:], [4, 0], change)
            self.assert_refused(before + [change], AGAIN, -2, 2, 3)
            self.assertEqual(answered(before, change, BACK, *told(4))[1:], [[3]] + answered(UNEVEN, *told(4)), change)

    def test_a_change_behind_some_of_twenty(self):
        before = [("wt_start", 1), ("wt_weigh", 1, 0)] + [("wt_read", 0, y) for y in range(1, 26)] + [BACK] * 5
        calls = [STATE, ("wt_read", 0, 99), STATE, BACK, ("wt_told", 0), *[BACK] * 15, ("wt_told", 0), BACK]
        given = answered(before, *calls)
        self.assertEqual(given[:5], [[1, 1, 15, 5], [0, 20], [1, 1, 16, 0], [15], [1, 20]])
        self.assertEqual(given[-3:], [[0], [1, 5], [-2]])

    def test_a_start_forgets_both(self):
        before = UNEVEN + [("wt_turn", 0), BACK]
        self.assertEqual(last(*before, STATE), [3, 2, 3, 1])
        self.assertEqual(
            answered(before, ("wt_start", 2), STATE, BACK, AGAIN, STATE),
            [[0], [0, 2, 0, 0], [-2], [-2], [0, 2, 0, 0]],
        )

    def test_a_start_that_is_refused_forgets_nothing(self):
        before = UNEVEN + [("wt_turn", 0), BACK]
        for n in (0, 6, GREATEST):
            self.assert_refused(before, ("wt_start", n), -22, 2, 3)

    def test_mended_what_was_taken_back(self):
        calls = [("wt_read", 1, 9), BACK, ("wt_mend", 1), AGAIN, BACK, ("wt_told", 1), AGAIN, ("wt_told", 1)]
        self.assertEqual(answered(UNEVEN, *calls), [[0, 3], [3], [0, 4], [-2], [3], [1, 3], [0], [1, 4]])

    def test_nothing_is_kept_for_another_line(self):
        ask(*UNEVEN, BACK)
        self.assertEqual(ask(("wt_start", 2), STATE, BACK, AGAIN), [[0], [0, 2, 0, 0], [-2], [-2]])


if __name__ == "__main__":
    unittest.main()
