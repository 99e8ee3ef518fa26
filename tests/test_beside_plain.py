"""All calls beside another way to find the same, on many lines of calls."""

import random
import unittest
from itertools import product

from tests.callers import GREATEST, GREATEST_Y, LEAST_Y, NAMES, any_weighings, ask, look, weighed
from tests.plain import PlainBalance, counts

SEED = 20
NO_NUMBERS = tuple(
    "wt_crosses wt_can wt_whole wt_all wt_rest wt_next wt_surest wt_spare wt_back wt_again wt_state".split()
)


def any_place(source):
    return source.choice((0, 1, 2, 3, 4, 5, 6, 7, 8, GREATEST))


def any_reading(source):
    edges = (0, -10000, 10000, -10001, 10001, LEAST_Y, GREATEST_Y)
    return source.choice(edges) if source.random() < 0.2 else source.randint(-60, 60)


def any_pans(source, things):
    wrong = source.choice((0, 3 ** things, GREATEST))
    return wrong if source.random() < 0.1 else source.randint(1, 3 ** things - 1)


def any_weigh(source, things, weights):
    """A weighing whose reading is mostly just what the things weigh, so that another can be mended by it."""
    p = any_pans(source, things)
    if source.random() < 0.3:
        return ("wt_weigh", p, any_reading(source))
    return ("wt_weigh", p, sum(count * weight for count, weight in zip(counts(p, things), weights)))


def any_call(source, things, weights):
    name = source.choice(NAMES[1:] + ("wt_weigh",) * 8 + ("wt_mend",) * 2)
    if name == "wt_weigh":
        return any_weigh(source, things, weights)
    if name == "wt_read":
        return (name, any_place(source), any_reading(source))
    if name == "wt_expected":
        return (name, any_pans(source, things))
    if name in ("wt_together", "wt_both"):
        return (name, source.randint(0, things), source.randint(0, things))
    if name in ("wt_weight", "wt_sure"):
        return (name, source.randint(0, things))
    return (name,) if name in NO_NUMBERS else (name, any_place(source))


def any_line(source, things, many):
    weights = [source.randint(-9, 99) for thing in range(5)]
    calls = [("wt_start", things)]
    while len(calls) < many:
        calls.append(any_call(source, things, weights))
        if source.random() < 0.01:
            asked = source.choice((0, 1, 2, 3, 4, 5, 6))
            calls.append(("wt_start", asked))
            things = asked if 1 <= asked <= 5 else things
    return calls[:many]


class BesidePlain(unittest.TestCase):
    def assert_same(self, calls):
        plain = PlainBalance()
        for k, given in enumerate(ask(*calls)):
            self.assertEqual(given, plain.answer(*calls[k]), calls[:k + 1])

    def test_lines_of_all_calls(self):
        source = random.Random(SEED)
        for k in range(100):
            self.assert_same(any_line(source, k % 5 + 1, 60))

    def test_long_lines_of_all_calls(self):
        source = random.Random(SEED + 1)
        for things in (1, 2, 3, 4, 5):
            self.assert_same(any_line(source, things, 1000))

    def test_all_answers_and_refusals_are_met(self):
        source = random.Random(SEED)
        met = {}
        for k in range(100):
            calls = any_line(source, k % 5 + 1, 60)
            for call, given in zip(calls, ask(*calls)):
                met.setdefault(call[0], set()).add(min(given[0], 0))
        self.assertEqual(set(met), set(NAMES))
        self.assertEqual(met["wt_mend"], {0, -2, -17, -33, -75})
        self.assertEqual(met["wt_both"], {0, -2, -22, -33})
        self.assertEqual(met["wt_expected"], {0, -22, -33})
        self.assertEqual(met["wt_weigh"], {0, -22, -28})

    def test_all_pans_of_two_things(self):
        for many in range(4):
            for chosen in product(range(1, 9), repeat=many):
                weighs = [("wt_weigh", p, 7 - 5 * k) for k, p in enumerate(chosen)]
                mends = [("wt_mend", r) for r in range(many)]
                self.assert_same([("wt_start", 2)] + weighs + look(2, many) + mends)

    def test_what_can_be_told_of_few_weighings(self):
        source = random.Random(SEED)
        for k in range(300):
            things = source.randint(3, 5)
            before = weighed(things, *any_weighings(source, things, source.randint(1, 6)))
            self.assert_same(before + [("wt_can",), ("wt_whole",), ("wt_all",), ("wt_spare",)])

    def test_best_weighings_where_few_are_there(self):
        # Tables of each rank, down to those that one weighing more can't make whole.
        source = random.Random(SEED + 2)
        for things in (2, 3, 4, 5):
            for many in range(6):
                before = weighed(things, *any_weighings(source, things, many))
                asked = [("wt_better", r) for r in range(many)]
                self.assert_same(before + [("wt_next",), ("wt_surest",)] + asked)

    def test_what_eight_weighings_of_five_things_tell(self):
        source = random.Random(SEED + 3)
        for k in range(3):
            self.assert_same(weighed(5, *any_weighings(source, 5, 8)) + look(5, 8))


if __name__ == "__main__":
    unittest.main()
