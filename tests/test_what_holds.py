"""What the document says that holds, over the whole program."""

import random
import unittest
from fractions import Fraction
from itertools import product

from tests.callers import any_counts, any_weighings, ask, look, look_at_things, weighed

SEED = 20
SIGNS = [[-1 if bin(r & k).count("1") % 2 else 1 for k in range(8)] for r in range(8)]


def shown(counts, weights):
    return sum(count * weight for count, weight in zip(counts, weights))


def off(weighings, weights):
    return sum((reading - shown(counts, weights)) ** 2 for counts, reading in weighings)


def answered(before, *calls):
    return ask(*before, *calls)[len(before):]


def told_fractions(before, *calls):
    """What these calls answer, as fractions, or None if not all things can be told."""
    asked = answered(before, *calls)
    return None if [-33] in asked else [Fraction(above, below) for answer, above, below in asked]


def of_each(name, many):
    return [(name, k) for k in range(many)]


def on_a_pan_and_crossing(weighings, i):
    """Whether thing i is on a pan each time, and crosses each other one."""
    rows = [counts for counts, reading in weighings]
    others = [j for j in range(len(rows[0])) if j != i]
    return all(row[i] for row in rows) and all(sum(row[i] * row[j] for row in rows) == 0 for j in others)


class WhatHolds(unittest.TestCase):
    def any_lines(self, most=120):
        """Things, weighings of them, and the calls that weigh these."""
        source = random.Random(SEED)
        for k in range(most):
            things = source.randint(1, 5)
            weighings = any_weighings(source, things, source.randint(things, 8))
            yield source, things, weighings, weighed(things, *weighings)

    def told_lines(self):
        """Those of which all things can be told."""
        for source, things, weighings, before in self.any_lines():
            if answered(before, ("wt_whole",)) != [[0, 0]]:
                yield source, things, weighings, before

    def few_and_crossing(self):
        """All weighings of two things up to three, and such in which things cross."""
        for many in (1, 2, 3):
            for rows in product(product((0, 1, -1), repeat=2), repeat=many):
                if all(any(row) for row in rows):
                    yield 2, [(row, 0) for row in rows]
        for many, things in ((1, 1), (2, 2), (4, 2), (4, 3), (4, 4), (8, 3), (8, 4), (8, 5)):
            rows = [row[:things] for row in SIGNS[:many]]
            yield things, [(row, 0) for row in rows]
            yield things, [(row, 0) for row in rows[1:] + [[0] * (things - 1) + [1]]]
            yield things, [(row, 0) for row in rows[1:] + [[1] * (things - 1) + [0]] if any(row)] or [([1], 0)]

    def test_all_can_be_told_just_when_the_determinant_is_not_0(self):
        for source, things, weighings, before in self.any_lines():
            can, whole = answered(before, ("wt_can",), ("wt_whole",))
            self.assertGreaterEqual(whole[1], 0)
            self.assertEqual(can[0] == things, whole[1] != 0)

    def test_least_off(self):
        for source, things, weighings, before in self.told_lines():
            weights = told_fractions(before, *of_each("wt_weight", things))
            least = off(weighings, weights)
            self.assertEqual(told_fractions(before, ("wt_rest",)), [least])
            for i in range(things):
                for more in (Fraction(1, 1000), Fraction(-1, 1000)):
                    other = list(weights)
                    other[i] += more
                    self.assertGreater(off(weighings, other), least)
            any_other = [weight + source.randint(-3, 3) for weight in weights]
            self.assertGreaterEqual(off(weighings, any_other), least)

    def test_the_rest_is_of_what_each_is_off_by(self):
        for source, things, weighings, before in self.told_lines():
            offs = told_fractions(before, *of_each("wt_off", len(weighings)))
            self.assertEqual(told_fractions(before, ("wt_rest",)), [sum(x * x for x in offs)])

    def test_no_surer_than_one_by_so_many(self):
        for source, things, weighings, before in self.told_lines():
            for unsure in told_fractions(before, *of_each("wt_sure", things)):
                self.assertGreaterEqual(unsure, Fraction(1, len(weighings)))

    def test_as_sure_as_one_by_so_many_just_if_it_crosses_each_other_one(self):
        surest = 0
        for things, weighings in self.few_and_crossing():
            unsure = told_fractions(weighed(things, *weighings), *of_each("wt_sure", things)) or []
            for i, much in enumerate(unsure):
                self.assertGreaterEqual(much, Fraction(1, len(weighings)))
                self.assertEqual(much == Fraction(1, len(weighings)), on_a_pan_and_crossing(weighings, i))
                surest += much == Fraction(1, len(weighings))
        self.assertGreater(surest, 20)

    def test_no_determinant_is_greater(self):
        for source, things, weighings, before in self.any_lines():
            for name, many in (("wt_whole", len(weighings)), ("wt_next", len(weighings) + 1)):
                self.assertLessEqual(answered(before, (name,))[0][1], many ** things)

    def test_the_determinant_is_greatest_just_if_all_cross(self):
        greatest = 0
        for things, weighings in self.few_and_crossing():
            whole = answered(weighed(things, *weighings), ("wt_whole",))[0][1]
            crossing = all(on_a_pan_and_crossing(weighings, i) for i in range(things))
            self.assertLessEqual(whole, len(weighings) ** things)
            self.assertEqual(whole == len(weighings) ** things, crossing)
            greatest += crossing
        self.assertGreater(greatest, 10)

    def test_one_weighing_more_no_less_sure(self):
        for source, things, weighings, before in self.told_lines():
            if len(weighings) == 8:
                continue
            sure = of_each("wt_sure", things) + [("wt_all",)]
            more = before + weighed(things, (any_counts(source, things), 1))[1:]
            for fewer, surer in zip(told_fractions(before, *sure), told_fractions(more, *sure)):
                self.assertLessEqual(surer, fewer)
            pairs = [("wt_both", i, j) for i in range(things) for j in range(i)]
            for fewer, surer in zip(told_fractions(before, *pairs), told_fractions(more, *pairs)):
                self.assertLessEqual(surer, fewer)

    def test_what_cannot_be_spared_is_off_by_nothing(self):
        met = 0
        for source, things, weighings, before in self.told_lines():
            spared = answered(before, ("wt_spare",))[0][1:]
            for r, much in enumerate(told_fractions(before, *of_each("wt_off", len(weighings)))):
                if spared[r] == 0:
                    self.assertEqual(much, 0)
                    met += len(weighings) > things
        self.assertGreater(met, 10)

    def test_what_can_be_spared_just_when_all_are_told_without_it(self):
        for source, things, weighings, before in self.any_lines():
            spared = answered(before, ("wt_spare",))[0]
            left = [answered(before, ("wt_drop", r), ("wt_whole",))[1][1] for r in range(len(weighings))]
            self.assertEqual(spared[1:], [int(whole > 0) for whole in left] + [0] * (8 - len(left)))
            self.assertEqual(spared[0], sum(spared[1:]))

    def test_as_they_weigh(self):
        for source, things, weighings, before in self.told_lines():
            weights = [source.randint(-2000, 2000) for thing in range(things)]
            readings = [("wt_read", r, shown(counts, weights)) for r, (counts, reading) in enumerate(weighings)]
            after = before + readings
            self.assertEqual(told_fractions(after, *of_each("wt_weight", things)), weights)
            self.assertEqual(told_fractions(after, *of_each("wt_off", len(weighings))), [0] * len(weighings))
            self.assertEqual(told_fractions(after, ("wt_rest",)), [0])

    def test_mended_a_reading_changes_nothing_that_all_others_tell(self):
        met = 0
        for source, things, weighings, before in self.any_lines():
            r = source.randrange(len(weighings))
            weights = [source.randint(-2000, 2000) for thing in range(things)]
            readings = [("wt_read", k, shown(counts, weights)) for k, (counts, reading) in enumerate(weighings)]
            after = before + readings[:r] + readings[r + 1:]
            if answered(after, ("wt_mend", r))[0][0] != 0:
                continue
            met += 1
            asked = of_each("wt_weight", things) + [("wt_rest",)]
            self.assertEqual(answered(after, ("wt_mend", r), *asked)[1:], answered(after, ("wt_drop", r), *asked)[1:])
            self.assertEqual(answered(after, ("wt_mend", r), ("wt_off", r))[1:], [[0, 0, 1]])
            self.assertEqual(answered(after, ("wt_mend", r), ("wt_mend", r))[1:], [[-17]])
        self.assertGreater(met, 30)

    def test_pans_exchanged_tell_the_same(self):
        for source, things, weighings, before in self.any_lines():
            seen = look_at_things(things)
            turn = ("wt_turn", source.randrange(len(weighings)))
            self.assertEqual(answered(before, turn, *seen)[1:], answered(before, *seen))

    def test_taken_back_all_is_as_it_was(self):
        for source, things, weighings, before in self.any_lines(40):
            seen = look(things, len(weighings))
            at_first = answered(before, *seen)
            r = source.randrange(len(weighings))
            for change in (("wt_weigh", 1, 5), ("wt_drop", r), ("wt_read", r, 5), ("wt_turn", r), ("wt_mend", r)):
                if answered(before, change)[0][0] < 0:
                    continue
                self.assertEqual(answered(before, change, ("wt_back",), *seen)[2:], at_first)
                changed = answered(before, change, *seen)[1:]
                self.assertEqual(answered(before, change, ("wt_back",), ("wt_again",), *seen)[3:], changed)

    def test_the_best_weighing_more_does_what_is_told_of_it(self):
        for source, things, weighings, before in self.any_lines():
            fewer = weighed(things, *weighings[:7])
            best, surest = answered(fewer, ("wt_next",), ("wt_surest",))
            self.assertEqual(answered(fewer, ("wt_weigh", best[0], 0), ("wt_whole",))[1], [0, best[1]])
            if surest != [-33]:
                self.assertEqual(answered(fewer, ("wt_weigh", surest[0], 0), ("wt_all",))[1], [0] + surest[1:])

    def test_the_better_weighing_does_what_is_told_of_it(self):
        for source, things, weighings, before in self.any_lines():
            r = source.randrange(len(weighings))
            whole, better = answered(before, ("wt_whole",), ("wt_better", r))
            self.assertGreaterEqual(better[1], whole[1])
            put = [("wt_drop", r), ("wt_weigh", better[0], 0), ("wt_whole",)]
            self.assertEqual(answered(before, *put)[2], [0, better[1]])


if __name__ == "__main__":
    unittest.main()
