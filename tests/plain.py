"""The same answers found in another, slower way, straight from the document's words."""

from fractions import Fraction
from functools import lru_cache
from itertools import permutations


def counts(number, things):
    digits = [number // 3 ** thing % 3 for thing in range(things)]
    return [{0: 0, 1: 1, 2: -1}[digit] for digit in digits]


def sign(order):
    swaps = sum(1 for i in range(len(order)) for j in range(i) if order[j] > order[i])
    return -1 if swaps % 2 else 1


@lru_cache(maxsize=None)
def signed_orders(many):
    return [(order, sign(order)) for order in permutations(range(many))]


def determinant(table):
    whole = 0
    for order, product in signed_orders(len(table)):
        for i, j in enumerate(order):
            product *= table[i][j]
        whole += product
    return whole


def put_column(table, j, column):
    return [row[:j] + [column[i]] + row[j + 1:] for i, row in enumerate(table)]


def solved(table, right):
    """What, multiplied with the table, is the right side (Cramer's rule)."""
    whole = determinant(table)
    return [Fraction(determinant(put_column(table, j, right)), whole) for j in range(len(table))]


def unit(things, i):
    return [1 if k == i else 0 for k in range(things)]


def rank(rows):
    rows = [[Fraction(x) for x in row] for row in rows]
    found = 0
    for column in range(len(rows[0]) if rows else 0):
        at = next((k for k in range(found, len(rows)) if rows[k][column] != 0), None)
        if at is None:
            continue
        rows[found], rows[at] = rows[at], rows[found]
        for k in range(found + 1, len(rows)):
            times = rows[k][column] / rows[found][column]
            rows[k] = [x - times * y for x, y in zip(rows[k], rows[found])]
        found += 1
    return found


def table_of(rows, things):
    return [[sum(row[i] * row[j] for row in rows) for j in range(things)] for i in range(things)]


def unsure_together(table):
    """The inverse's diagonal, together, or None: each number there is a minor over the determinant."""
    whole = determinant(table)
    kept = [[k for k in range(len(table)) if k != i] for i in range(len(table))]
    minors = [determinant([[table[j][k] for k in few] for j in few]) for few in kept]
    return None if whole == 0 else Fraction(sum(minors), whole)


class PlainBalance:
    """Keeps the weighings as they were at each time, and at which of these times one is."""

    def __init__(self):
        self.n = 0
        self.times = [()]
        self.at = 0

    @property
    def all(self):
        return self.times[self.at]

    def change(self, weighings):
        self.times = (self.times[:self.at + 1] + [tuple(weighings)])[-21:]
        self.at = len(self.times) - 1

    def change_one(self, r, p, y):
        self.change((p, y) if k == r else old for k, old in enumerate(self.all))

    def others(self, r):
        return [old for k, old in enumerate(self.all) if k != r]

    def rows(self, weighings):
        return [counts(p, self.n) for p, y in weighings]

    def table(self):
        return table_of(self.rows(self.all), self.n)

    def told(self, weighings):
        rows = self.rows(weighings)
        return [int(rank(rows + [unit(self.n, i)]) == rank(rows)) for i in range(self.n)]

    def weights(self, weighings):
        right = [sum(counts(p, self.n)[i] * y for p, y in weighings) for i in range(self.n)]
        return solved(table_of(self.rows(weighings), self.n), right)

    def shown(self, weights, p):
        return sum((count * weight for count, weight in zip(counts(p, self.n), weights)), Fraction(0))

    def off(self, r):
        p, y = self.all[r]
        return y - self.shown(self.weights(self.all), p)

    def inverse(self, i, j):
        return solved(self.table(), unit(self.n, j))[i]

    def tables_with_more(self, weighings):
        """Of each pans the table with one such weighing more."""
        rows = self.rows(weighings)
        return {p: table_of(rows + [counts(p, self.n)], self.n) for p in range(1, 3 ** self.n)}

    def greatest(self, weighings):
        wholes = {p: determinant(table) for p, table in self.tables_with_more(weighings).items()}
        best = max(wholes.values())
        return [min(p for p in wholes if wholes[p] == best), best]

    def answer(self, name, *given):
        return getattr(self, name)(*given)

    def wt_start(self, n):
        if n not in (1, 2, 3, 4, 5):
            return [-22]
        self.n = n
        self.times = [()]
        self.at = 0
        return [0]

    def wt_weigh(self, p, y):
        if p not in range(1, 3 ** self.n) or y not in range(-10000, 10001):
            return [-22]
        if len(self.all) == 8:
            return [-28]
        self.change(self.all + ((p, y),))
        return [len(self.all) - 1]

    def wt_drop(self, r):
        if r not in range(len(self.all)):
            return [-2]
        self.change(self.others(r))
        return [len(self.all)]

    def wt_read(self, r, y):
        if r not in range(len(self.all)):
            return [-2]
        if y not in range(-10000, 10001):
            return [-22]
        p, before = self.all[r]
        self.change_one(r, p, y)
        return [0, before]

    def wt_told(self, r):
        if r not in range(len(self.all)):
            return [-2]
        return list(self.all[r])

    def wt_turn(self, r):
        if r not in range(len(self.all)):
            return [-2]
        p, y = self.all[r]
        turned = sum(3 ** i * (-count % 3) for i, count in enumerate(counts(p, self.n)))
        self.change_one(r, turned, -y)
        return [turned]

    def wt_together(self, i, j):
        if i not in range(self.n) or j not in range(self.n):
            return [-2]
        return [0, self.table()[i][j]]

    def wt_crosses(self):
        table = self.table()
        return [sum(1 for i in range(self.n) for j in range(i) if table[i][j] == 0)]

    def wt_can(self):
        told = self.told(self.all)
        return [sum(told)] + told + [0] * (5 - self.n)

    def wt_whole(self):
        return [0, determinant(self.table())]

    def wt_weight(self, i):
        if i not in range(self.n):
            return [-2]
        return self.if_all_told(lambda: self.weights(self.all)[i])

    def wt_sure(self, i):
        if i not in range(self.n):
            return [-2]
        return self.if_all_told(lambda: self.inverse(i, i))

    def wt_all(self):
        return self.if_all_told(lambda: sum(self.inverse(i, i) for i in range(self.n)))

    def wt_both(self, i, j):
        if i not in range(self.n) or j not in range(self.n):
            return [-2]
        if i == j:
            return [-22]
        return self.if_all_told(lambda: self.inverse(i, i) + self.inverse(j, j) - 2 * self.inverse(i, j))

    def wt_expected(self, p):
        if p not in range(1, 3 ** self.n):
            return [-22]
        return self.if_all_told(lambda: self.shown(self.weights(self.all), p))

    def wt_off(self, r):
        if r not in range(len(self.all)):
            return [-2]
        return self.if_all_told(lambda: self.off(r))

    def wt_rest(self):
        return self.if_all_told(lambda: sum((self.off(r) ** 2 for r in range(len(self.all))), Fraction(0)))

    def wt_next(self):
        return self.greatest(self.all)

    def wt_surest(self):
        unsure = {p: unsure_together(table) for p, table in self.tables_with_more(self.all).items()}
        unsure = {p: much for p, much in unsure.items() if much is not None}
        if not unsure:
            return [-33]
        least = min(unsure.values())
        return [min(p for p in unsure if unsure[p] == least), least.numerator, least.denominator]

    def wt_spare(self):
        spared = [int(0 not in self.told(self.others(r))) for r in range(len(self.all))]
        return [sum(spared)] + spared + [0] * (8 - len(spared))

    def wt_better(self, r):
        if r not in range(len(self.all)):
            return [-2]
        return self.greatest(self.others(r))

    def wt_mend(self, r):
        if r not in range(len(self.all)):
            return [-2]
        if 0 in self.told(self.others(r)):
            return [-33]
        p, y = self.all[r]
        shown = self.shown(self.weights(self.others(r)), p)
        if shown.denominator != 1 or abs(shown) > 10000:
            return [-75]
        if shown == y:
            return [-17]
        self.change_one(r, p, int(shown))
        return [0, int(shown)]

    def wt_back(self):
        if self.at == 0:
            return [-2]
        self.at -= 1
        return [self.at]

    def wt_again(self):
        if self.at == len(self.times) - 1:
            return [-2]
        self.at += 1
        return [len(self.times) - 1 - self.at]

    def wt_state(self):
        return [len(self.all), self.n, self.at, len(self.times) - 1 - self.at]

    def if_all_told(self, find):
        if 0 in self.told(self.all):
            return [-33]
        found = find()
        return [0, found.numerator, found.denominator]
