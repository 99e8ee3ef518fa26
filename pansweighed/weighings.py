"""The calls on a balance with two pans, and what is answered of them."""

from pansweighed.tables import determinant
from pansweighed.tables import fraction
from pansweighed.tables import pans_beyond
from pansweighed.tables import scaled_inverse
from pansweighed.tables import scaled_weights
from pansweighed.tables import table_of
from pansweighed.tables import told_things
from pansweighed.tables import turned_pans

NOT_THERE = -2
TOLD_WRONGLY = -22
NO_ROOM = -28
NOT_ALL_TOLD = -33

MOST_THINGS = 5
MOST_WEIGHINGS = 8
MOST_READING = 10000


class Balance:
    """How many things there are, and the weighings: pairs of the pans' number and the reading."""

    def __init__(self):
        self.things = 0
        self.weighings = []

    def begin(self, things):
        """Begins anew with so many things."""
        self.things = things
        self.weighings = []

    def change(self, weighings):
        """Puts other weighings in the place of those there are."""
        # Each change comes through here with a list of its own, so that the one before can be kept whole.
        self.weighings = weighings

    def change_one(self, r, pans, reading):
        """Puts another weighing in the place of weighing r."""
        self.change(self.weighings[:r] + [(pans, reading)] + self.weighings[r + 1:])

    def has_thing(self, i):
        """Whether thing i is there."""
        return i < self.things

    def has_weighing(self, r):
        """Whether weighing r is there."""
        return r < len(self.weighings)

    def table(self):
        """The table of what each two things count."""
        return table_of(self.weighings, self.things)


def pans_wrong(balance, p):
    """Whether p tells no pans."""
    return p == 0 or p >= pans_beyond(balance.things)


def reading_wrong(y):
    """Whether y can't be a reading."""
    return y < -MOST_READING or y > MOST_READING


def wt_start(balance, n):
    """Begins with n things: 0."""
    if n < 1 or n > MOST_THINGS:
        return [TOLD_WRONGLY]
    balance.begin(n)
    return [0]


def wt_weigh(balance, p, y):
    """Adds a weighing: its number."""
    if pans_wrong(balance, p) or reading_wrong(y):
        return [TOLD_WRONGLY]
    number = len(balance.weighings)
    if number == MOST_WEIGHINGS:
        return [NO_ROOM]
    balance.change(balance.weighings + [(p, y)])
    return [number]


def wt_drop(balance, r):
    """Takes weighing r away: how many there are."""
    if not balance.has_weighing(r):
        return [NOT_THERE]
    balance.change(balance.weighings[:r] + balance.weighings[r + 1:])
    return [len(balance.weighings)]


def wt_read(balance, r, y):
    """Gives weighing r another reading: 0, and what it was."""
    if not balance.has_weighing(r):
        return [NOT_THERE]
    if reading_wrong(y):
        return [TOLD_WRONGLY]
    before = balance.weighings[r]
    balance.change_one(r, before[0], y)
    return [0, before[1]]


def wt_told(balance, r):
    """Weighing r's pans and reading."""
    if not balance.has_weighing(r):
        return [NOT_THERE]
    return list(balance.weighings[r])


def wt_turn(balance, r):
    """Exchanges the pans of weighing r: its pans then."""
    if not balance.has_weighing(r):
        return [NOT_THERE]
    before = balance.weighings[r]
    turned = turned_pans(before[0])
    balance.change_one(r, turned, -before[1])
    return [turned]


def wt_together(balance, i, j):
    """0, and what the table has for things i and j."""
    if not balance.has_thing(i) or not balance.has_thing(j):
        return [NOT_THERE]
    return [0, balance.table()[i][j]]


def wt_crosses(balance):
    """How many pairs of two things cross."""
    crossing = 0
    for i, row in enumerate(balance.table()):
        crossing = crossing + row[:i].count(0)
    return [crossing]


def wt_can(balance):
    """How many things can be told, and of each place for a thing 1 if it can, else 0."""
    told = told_things(balance.table())
    return [sum(told)] + told + [0] * (MOST_THINGS - len(told))


def wt_whole(balance):
    """0, and the determinant."""
    return [0, determinant(balance.table())]


def wt_weight(balance, i):
    """0, and thing i's weight, a fraction."""
    if not balance.has_thing(i):
        return [NOT_THERE]
    below = determinant(balance.table())
    if below == 0:
        return [NOT_ALL_TOLD]
    return [0] + fraction(scaled_weights(balance.weighings, balance.things)[i], below)


def wt_sure(balance, i):
    """0, and how unsure thing i's weight is, a fraction."""
    if not balance.has_thing(i):
        return [NOT_THERE]
    table = balance.table()
    below = determinant(table)
    if below == 0:
        return [NOT_ALL_TOLD]
    return [0] + fraction(scaled_inverse(table)[i][i], below)


def wt_all(balance):
    """0, and how unsure all weights are, together, a fraction."""
    table = balance.table()
    below = determinant(table)
    if below == 0:
        return [NOT_ALL_TOLD]
    return [0] + fraction(sum([row[i] for i, row in enumerate(scaled_inverse(table))]), below)


# Each call, at the place of its number, and how many numbers it is handed.
CALLS = (
    (wt_start, 1),
    (wt_weigh, 2),
    (wt_drop, 1),
    (wt_read, 2),
    (wt_told, 1),
    (wt_turn, 1),
    (wt_together, 2),
    (wt_crosses, 0),
    (wt_can, 0),
    (wt_whole, 0),
    (wt_weight, 1),
    (wt_sure, 1),
    (wt_all, 0),
)


def answer_one(balance, number, handed):
    """What is answered of one call."""
    call = CALLS[number][0]
    if len(handed) == 0:
        return call(balance)
    if len(handed) == 1:
        return call(balance, handed[0])
    return call(balance, handed[0], handed[1])


def answers(calls):
    """Of each call in the list, in order, how many numbers are answered, then these."""
    balance = Balance()
    given = []
    at = 0
    while at < len(calls):
        behind = at + 1 + CALLS[calls[at]][1]
        answered = answer_one(balance, calls[at], calls[at + 1:behind])
        given.append(len(answered))
        given.extend(answered)
        at = behind
    return given
