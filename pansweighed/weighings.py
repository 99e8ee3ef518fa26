"""The calls on a balance with two pans, and what is answered of them."""

from pansweighed.tables import adjugate
from pansweighed.tables import determinant
from pansweighed.tables import diagonal_sum
from pansweighed.tables import fraction
from pansweighed.tables import greatest_whole
from pansweighed.tables import pans_beyond
from pansweighed.tables import products_sum
from pansweighed.tables import scaled_offs
from pansweighed.tables import scaled_weights
from pansweighed.tables import shown_by
from pansweighed.tables import surest_pans
from pansweighed.tables import table_of
from pansweighed.tables import told_things
from pansweighed.tables import turned_pans
from pansweighed.tables import without

NOT_THERE = -2
READ_SO = -17
TOLD_WRONGLY = -22
NO_ROOM = -28
NOT_ALL_TOLD = -33
NO_READING = -75

MOST_THINGS = 5
MOST_WEIGHINGS = 8
MOST_READING = 10000
MOST_CHANGES = 20


class Balance:
    """How many things there are, and the weighings: pairs of the pans' number and the reading.

    Also the weighings as they were ahead of each change that can be taken back, and as they were
    behind each one that can be done again; the next to come back is the last of each list.
    """

    def __init__(self):
        self.begin(0)

    def begin(self, things):
        """Begins anew with so many things."""
        self.things = things
        self.weighings = []
        self.earlier = []
        self.later = []

    def change(self, weighings):
        """Puts other weighings, a list of its own, in the place of those there are."""
        self.earlier = (self.earlier + [self.weighings])[-MOST_CHANGES:]
        self.later = []
        self.weighings = weighings

    def take_back(self):
        """Takes the last change back."""
        self.later.append(self.weighings)
        self.weighings = self.earlier.pop()

    def do_again(self):
        """Does the last change that was taken back again."""
        self.earlier.append(self.weighings)
        self.weighings = self.later.pop()

    def change_one(self, r, pans, reading):
        """Puts another weighing in the place of weighing r."""
        self.change(self.weighings[:r] + [(pans, reading)] + self.weighings[r + 1:])

    def has_thing(self, i):
        """Whether thing i is there."""
        return i < self.things

    def has_weighing(self, r):
        """Whether weighing r is there."""
        return r < len(self.weighings)

    def table(self):
        """The table of what each two things count."""
        return table_of(self.weighings, self.things)

    def table_without(self, r):
        """The table of all weighings but r."""
        return table_of(without(self.weighings, r), self.things)


def pans_wrong(balance, p):
    """Whether p tells no pans."""
    return p == 0 or p >= pans_beyond(balance.things)


def reading_wrong(y):
    """Whether y can't be a reading."""
    return y < -MOST_READING or y > MOST_READING


def wt_start(balance, n):
    """Begins with n things: 0."""
    if n < 1 or n > MOST_THINGS:
        return [TOLD_WRONGLY]
    balance.begin(n)
    return [0]


def wt_weigh(balance, p, y):
    """Adds a weighing: its number."""
    if pans_wrong(balance, p) or reading_wrong(y):
        return [TOLD_WRONGLY]
    number = len(balance.weighings)
    if number == MOST_WEIGHINGS:
        return [NO_ROOM]
    balance.change(balance.weighings + [(p, y)])
    return [number]


def wt_drop(balance, r):
    """Takes weighing r away: how many there are."""
    if not balance.has_weighing(r):
        return [NOT_THERE]
    balance.change(without(balance.weighings, r))
    return [len(balance.weighings)]


def wt_read(balance, r, y):
    """Gives weighing r another reading: 0, and what it was."""
    if not balance.has_weighing(r):
        return [NOT_THERE]
    if reading_wrong(y):
        return [TOLD_WRONGLY]
    before = balance.weighings[r]
    balance.change_one(r, before[0], y)
    return [0, before[1]]


def wt_told(balance, r):
    """Weighing r's pans and reading."""
    if not balance.has_weighing(r):
        return [NOT_THERE]
    return list(balance.weighings[r])


def wt_turn(balance, r):
    """Exchanges the pans of weighing r: its pans then."""
    if not balance.has_weighing(r):
        return [NOT_THERE]
    before = balance.weighings[r]
    turned = turned_pans(before[0])
    balance.change_one(r, turned, -before[1])
    return [turned]


def wt_together(balance, i, j):
    """0, and what the table has for things i and j."""
    if not balance.has_thing(i) or not balance.has_thing(j):
        return [NOT_THERE]
    return [0, balance.table()[i][j]]


def wt_crosses(balance):
    """How many pairs of two things cross."""
    crossing = 0
    for i, row in enumerate(balance.table()):
        crossing = crossing + row[:i].count(0)
    return [crossing]


def wt_can(balance):
    """How many things can be told, and of each place for a thing 1 if it can, else 0."""
    told = told_things(balance.table())
    return [sum(told)] + told + [0] * (MOST_THINGS - len(told))


def wt_whole(balance):
    """0, and the determinant."""
    return [0, determinant(balance.table())]


def wt_weight(balance, i):
    """0, and thing i's weight, a fraction."""
    if not balance.has_thing(i):
        return [NOT_THERE]
    below = determinant(balance.table())
    if below == 0:
        return [NOT_ALL_TOLD]
    return [0] + fraction(scaled_weights(balance.weighings, balance.things)[i], below)


def wt_sure(balance, i):
    """0, and how unsure thing i's weight is, a fraction."""
    if not balance.has_thing(i):
        return [NOT_THERE]
    table = balance.table()
    below = determinant(table)
    if below == 0:
        return [NOT_ALL_TOLD]
    return [0] + fraction(adjugate(table)[i][i], below)


def wt_all(balance):
    """0, and how unsure all weights are, together, a fraction."""
    table = balance.table()
    below = determinant(table)
    if below == 0:
        return [NOT_ALL_TOLD]
    return [0] + fraction(diagonal_sum(adjugate(table)), below)


def wt_both(balance, i, j):
    """0, and how unsure the difference of things i and j is, a fraction."""
    if not balance.has_thing(i) or not balance.has_thing(j):
        return [NOT_THERE]
    if i == j:
        return [TOLD_WRONGLY]
    table = balance.table()
    below = determinant(table)
    if below == 0:
        return [NOT_ALL_TOLD]
    scaled = adjugate(table)
    return [0] + fraction(scaled[i][i] + scaled[j][j] - 2 * scaled[i][j], below)


def wt_expected(balance, p):
    """0, and what the weights show of these pans, a fraction."""
    if pans_wrong(balance, p):
        return [TOLD_WRONGLY]
    below = determinant(balance.table())
    if below == 0:
        return [NOT_ALL_TOLD]
    return [0] + fraction(shown_by(scaled_weights(balance.weighings, balance.things), p), below)


def wt_off(balance, r):
    """0, and weighing r's reading less what the weights show of its pans, a fraction."""
    if not balance.has_weighing(r):
        return [NOT_THERE]
    below = determinant(balance.table())
    if below == 0:
        return [NOT_ALL_TOLD]
    return [0] + fraction(scaled_offs(balance.weighings, balance.things)[r], below)


def wt_rest(balance):
    """0, and what all weighings are off by, squared, together, a fraction."""
    below = determinant(balance.table())
    if below == 0:
        return [NOT_ALL_TOLD]
    offs = scaled_offs(balance.weighings, balance.things)
    return [0] + fraction(products_sum(offs, offs), below * below)


def wt_next(balance):
    """The pans of the weighing more by which the determinant would be greatest, and that determinant."""
    return greatest_whole(balance.table())


def wt_surest(balance):
    """The pans of the weighing more by which all weights would be surest, and how unsure then, a fraction."""
    best = surest_pans(balance.table())
    if len(best) == 0:
        return [NOT_ALL_TOLD]
    return [best[0]] + fraction(best[1], best[2])


def wt_spare(balance):
    """How many weighings could be spared, and of each place for a weighing 1 if it could, else 0."""
    wholes = [determinant(balance.table_without(r)) for r in range(len(balance.weighings))]
    spared = [0 if whole == 0 else 1 for whole in wholes]
    return [sum(spared)] + spared + [0] * (MOST_WEIGHINGS - len(spared))


def wt_better(balance, r):
    """The pans in the place of weighing r's by which the determinant would be greatest, and that determinant."""
    if not balance.has_weighing(r):
        return [NOT_THERE]
    return greatest_whole(balance.table_without(r))


def wt_mend(balance, r):
    """Gives weighing r the reading that all others tell: 0, and that reading."""
    if not balance.has_weighing(r):
        return [NOT_THERE]
    below = determinant(balance.table_without(r))
    if below == 0:
        return [NOT_ALL_TOLD]
    before = balance.weighings[r]
    above = shown_by(scaled_weights(without(balance.weighings, r), balance.things), before[0])
    reading = above // below
    if reading * below != above or reading_wrong(reading):
        return [NO_READING]
    if reading == before[1]:
        return [READ_SO]
    balance.change_one(r, before[0], reading)
    return [0, reading]


def wt_back(balance):
    """Takes the last change back: how many can still be taken back."""
    if len(balance.earlier) == 0:
        return [NOT_THERE]
    balance.take_back()
    return [len(balance.earlier)]


def wt_again(balance):
    """Does the last change that was taken back again: how many can still be done again."""
    if len(balance.later) == 0:
        return [NOT_THERE]
    balance.do_again()
    return [len(balance.later)]


def wt_state(balance):
    """How many weighings, things, changes to take back, and changes to do again there are."""
    return [len(balance.weighings), balance.things, len(balance.earlier), len(balance.later)]


# Each call, at the place of its number, and how many numbers it is handed.
CALLS = (
    (wt_start, 1),
    (wt_weigh, 2),
    (wt_drop, 1),
    (wt_read, 2),
    (wt_told, 1),
    (wt_turn, 1),
    (wt_together, 2),
    (wt_crosses, 0),
    (wt_can, 0),
    (wt_whole, 0),
    (wt_weight, 1),
    (wt_sure, 1),
    (wt_all, 0),
    (wt_both, 2),
    (wt_expected, 1),
    (wt_off, 1),
    (wt_rest, 0),
    (wt_next, 0),
    (wt_surest, 0),
    (wt_spare, 0),
    (wt_better, 1),
    (wt_mend, 1),
    (wt_back, 0),
    (wt_again, 0),
    (wt_state, 0),
)


def answer_one(balance, number, handed):
    """What is answered of one call."""
    call = CALLS[number][0]
    if len(handed) == 0:
        return call(balance)
    if len(handed) == 1:
        return call(balance, handed[0])
    return call(balance, handed[0], handed[1])


def answers(calls):
    """Of each call in the list, in order, how many numbers are answered, then these."""
    balance = Balance()
    given = []
    at = 0
    while at < len(calls):
        behind = at + 1 + CALLS[calls[at]][1]
        answered = answer_one(balance, calls[at], calls[at + 1:behind])
        given.append(len(answered))
        given.extend(answered)
        at = behind
    return given
