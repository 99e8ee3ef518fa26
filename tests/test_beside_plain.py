"""All calls beside another way to find the same, on many lines of calls; and what the document says that holds."""

import random
import unittest
from fractions import Fraction
from itertools import product

from tests.callers import GREATEST, GREATEST_Y, LEAST_Y, NAMES, ask, look, weighed
from tests.plain import PlainBalance

SEED = 20


def any_counts(source, things):
    while True:
        counts = [source.choice((-1, 0, 1)) for thing in range(things)]
        if any(counts):
            return counts


def any_weighings(source, things, many):
    return [(any_counts(source, things), source.randint(-10000, 10000)) for k in range(many)]


def any_place(source):
    return source.choice((0, 1, 2, 3, 4, 5, 6, 7, 8, GREATEST))


def any_reading(source):
    edges = (0, -10000, 10000, -10001, 10001, LEAST_Y, GREATEST_Y)
    return source.choice(edges) if source.random() < 0.2 else source.randint(-60, 60)


def any_call(source, things):
    name = source.choice(NAMES[1:] + ("wt_weigh",) * 8)
    if name == "wt_weigh":
        wrong = source.choice((0, 3 ** things, GREATEST))
        p = wrong if source.random() < 0.1 else source.randint(1, 3 ** things - 1)
        return (name, p, any_reading(source))
    if name == "wt_read":
        return (name, any_place(source), any_reading(source))
    if name == "wt_together":
        return (name, source.randint(0, things), source.randint(0, things))
    if name in ("wt_drop", "wt_told", "wt_turn"):
        return (name, any_place(source))
    if name in ("wt_weight", "wt_sure"):
        return (name, source.randint(0, things))
    return (name,)


def any_line(source):
    things = source.randint(1, 5)
    calls = [("wt_start", things)]
    while len(calls) < 60:
        calls.append(any_call(source, things))
        if source.random() < 0.02:
            asked = source.choice((0, 1, 2, 3, 4, 5, 6))
            calls.append(("wt_start", asked))
            things = asked if 1 <= asked <= 5 else things
    return calls


class BesidePlain(unittest.TestCase):
    def assert_same(self, calls):
        plain = PlainBalance()
        self.assertEqual(ask(*calls), [plain.answer(*call) for call in calls], calls)

    def test_lines_of_all_calls(self):
        source = random.Random(SEED)
        for k in range(150):
            self.assert_same(any_line(source))

    def test_all_pans_of_two_things(self):
        for many in range(4):
            for chosen in product(range(1, 9), repeat=many):
                weighs = [("wt_weigh", p, 7 - 5 * k) for k, p in enumerate(chosen)]
                self.assert_same([("wt_start", 2)] + weighs + look(2, many))

    def test_what_can_be_told_of_few_weighings(self):
        source = random.Random(SEED)
        for k in range(300):
            things = source.randint(3, 5)
            before = weighed(things, *any_weighings(source, things, source.randint(1, 6)))
            self.assert_same(before + [("wt_can",), ("wt_whole",), ("wt_all",)])


def shown(counts, weights):
    return sum(count * weight for count, weight in zip(counts, weights))


def off(weighings, weights):
    return sum((reading - shown(counts, weights)) ** 2 for counts, reading in weighings)


class WhatHolds(unittest.TestCase):
    def each(self):
        source = random.Random(SEED)
        for k in range(120):
            things = source.randint(1, 5)
            weighings = any_weighings(source, things, source.randint(things, 8))
            yield source, things, weighings, weighed(things, *weighings)

    def fractions(self, before, name, things):
        asked = ask(*before, *[(name, i) for i in range(things)])[len(before):]
        return None if asked[0] == [-33] else [Fraction(above, below) for answer, above, below in asked]

    def test_what_can_be_told(self):
        for source, things, weighings, before in self.each():
            can, whole = ask(*before, ("wt_can",), ("wt_whole",))[-2:]
            self.assertGreaterEqual(whole[1], 0)
            self.assertEqual(can[0] == things, whole[1] != 0)
            self.assertLessEqual(whole[1], len(weighings) ** things)

    def test_least_off(self):
        for source, things, weighings, before in self.each():
            weights = self.fractions(before, "wt_weight", things)
            if weights is None:
                continue
            least = off(weighings, weights)
            for i in range(things):
                for more in (Fraction(1, 1000), Fraction(-1, 1000)):
                    other = list(weights)
                    other[i] += more
                    self.assertGreater(off(weighings, other), least)

    def test_no_surer_than_one_by_so_many(self):
        for source, things, weighings, before in self.each():
            for unsure in self.fractions(before, "wt_sure", things) or []:
                self.assertGreaterEqual(unsure, Fraction(1, len(weighings)))

    def test_one_weighing_more_no_less_sure(self):
        for source, things, weighings, before in self.each():
            fewer = self.fractions(before, "wt_sure", things)
            if fewer is None or len(weighings) == 8:
                continue
            more = before + weighed(things, (any_counts(source, things), 1))[1:]
            for first, second in zip(fewer, self.fractions(more, "wt_sure", things)):
                self.assertLessEqual(second, first)

    def test_as_they_weigh(self):
        for source, things, weighings, before in self.each():
            weights = [source.randint(-2000, 2000) for thing in range(things)]
            readings = [("wt_read", r, shown(counts, weights)) for r, (counts, reading) in enumerate(weighings)]
            told = self.fractions(before + readings, "wt_weight", things)
            self.assertIn(told, (None, weights))

    def test_pans_exchanged_tell_the_same(self):
        for source, things, weighings, before in self.each():
            seen = look(things, 0)[1:]
            turn = ("wt_turn", source.randrange(len(weighings)))
            self.assertEqual(ask(*before, turn, *seen)[len(before) + 1:], ask(*before, *seen)[len(before):])


if __name__ == "__main__":
    unittest.main()
