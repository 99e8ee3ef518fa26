"""Hands calls in by their names, and parts what is given back by calls."""

from pansweighed.weighings import answers

NAMES = (
    "wt_start", "wt_weigh", "wt_drop", "wt_read", "wt_told", "wt_turn", "wt_together",
    "wt_crosses", "wt_can", "wt_whole", "wt_weight", "wt_sure", "wt_all", "wt_both", "wt_expected",
    "wt_off", "wt_rest", "wt_next", "wt_surest", "wt_spare", "wt_better", "wt_mend", "wt_back", "wt_again",
    "wt_state",
)

LEAST_Y = -2 ** 31
GREATEST_Y = 2 ** 31 - 1
GREATEST = 2 ** 32 - 1


def listed(calls):
    """The list of whole numbers for calls such as ("wt_weigh", 4, 100)."""
    numbers = []
    for call in calls:
        numbers.append(NAMES.index(call[0]))
        numbers.extend(call[1:])
    return numbers


def parted(given):
    """Of each call the list of the numbers that are answered."""
    parts = []
    at = 0
    while at < len(given):
        behind = at + 1 + given[at]
        if given[at] < 1 or behind > len(given):
            raise AssertionError(f"not parted by counts: {given}")
        parts.append(given[at + 1:behind])
        at = behind
    return parts


def ask(*calls):
    """What is answered of each call, of calls on one new object."""
    parts = parted(answers(listed(calls)))
    if len(parts) != len(calls):
        raise AssertionError(f"{len(calls)} calls, {len(parts)} answers")
    return parts


def last(*calls):
    """What is answered of the last call."""
    return ask(*calls)[-1]


def pans(*counts):
    """The number of the pans on which things count so."""
    return sum(3 ** thing * (count % 3) for thing, count in enumerate(counts))


def weighed(things, *weighings):
    """A start, and weighings such as ((1, -1, 0), 12): what things count, the reading."""
    calls = [("wt_start", things)]
    for counts, reading in weighings:
        calls.append(("wt_weigh", pans(*counts), reading))
    return calls


def any_counts(source, things):
    """What things count on pans chosen by a random source."""
    while True:
        counts = [source.choice((-1, 0, 1)) for thing in range(things)]
        if any(counts):
            return counts


def any_weighings(source, things, many):
    """Weighings chosen by a random source."""
    return [(any_counts(source, things), source.randint(-10000, 10000)) for k in range(many)]


def look_at_weighings(weighings):
    """Calls that change nothing and show each weighing, and one too many."""
    return [(name, r) for name in ("wt_told", "wt_off", "wt_better") for r in range(weighings + 1)]


def look_at_things(things):
    """Calls that change nothing and show what all weighings tell together, and one thing too many."""
    calls = [("wt_together", i, j) for i in range(things + 1) for j in range(things + 1)]
    calls += [("wt_both", i, j) for i in range(things + 1) for j in range(things + 1)]
    calls += [(name, i) for name in ("wt_weight", "wt_sure") for i in range(things + 1)]
    calls += [("wt_expected", p) for p in (0, 1, 3 ** things - 1, 3 ** things)]
    calls += [(name,) for name in ("wt_crosses", "wt_can", "wt_whole", "wt_all", "wt_rest")]
    calls += [(name,) for name in ("wt_next", "wt_surest", "wt_spare")]
    return calls


def look(things, weighings):
    """Calls that change nothing and show all there is, but for the changes."""
    return look_at_weighings(weighings) + look_at_things(things)


def look_through(things, weighings):
    """Calls that show all there is, and all that can be taken back and done again."""
    there = [("wt_state",)] + [("wt_told", r) for r in range(9)]
    back = [("wt_back",)] + there
    again = [("wt_again",)] + there
    return look(things, weighings) + there + again * 21 + back * 21 + again * 21
