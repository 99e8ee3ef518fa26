"""The same answers found in another, slower way, straight from the document's words."""

from fractions import Fraction
from itertools import permutations


def counts(number, things):
    digits = [number // 3 ** thing % 3 for thing in range(things)]
    return [{0: 0, 1: 1, 2: -1}[digit] for digit in digits]


def sign(order):
    swaps = sum(1 for i in range(len(order)) for j in range(i) if order[j] > order[i])
    return -1 if swaps % 2 else 1


def determinant(table):
    whole = 0
    for order in permutations(range(len(table))):
        product = sign(order)
        for i, j in enumerate(order):
            product *= table[i][j]
        whole += product
    return whole


def put_column(table, j, column):
    return [row[:j] + [column[i]] + row[j + 1:] for i, row in enumerate(table)]


def solved(table, right):
    """What, multiplied with the table, is the right side (Cramer's rule)."""
    whole = determinant(table)
    return [Fraction(determinant(put_column(table, j, right)), whole) for j in range(len(table))]


def unit(things, i):
    return [1 if k == i else 0 for k in range(things)]


def rank(rows):
    rows = [[Fraction(x) for x in row] for row in rows]
    found = 0
    for column in range(len(rows[0]) if rows else 0):
        at = next((k for k in range(found, len(rows)) if rows[k][column] != 0), None)
        if at is None:
            continue
        rows[found], rows[at] = rows[at], rows[found]
        for k in range(found + 1, len(rows)):
            times = rows[k][column] / rows[found][column]
            rows[k] = [x - times * y for x, y in zip(rows[k], rows[found])]
        found += 1
    return found


class PlainBalance:
    def __init__(self):
        self.n = 0
        self.all = []

    def rows(self):
        return [counts(weighing[0], self.n) for weighing in self.all]

    def table(self):
        return [[sum(row[i] * row[j] for row in self.rows()) for j in range(self.n)] for i in range(self.n)]

    def told(self):
        rows = self.rows()
        return [int(rank(rows + [unit(self.n, i)]) == rank(rows)) for i in range(self.n)]

    def weights(self):
        right = [sum(counts(p, self.n)[i] * y for p, y in self.all) for i in range(self.n)]
        return solved(self.table(), right)

    def unsure(self, i):
        return solved(self.table(), unit(self.n, i))[i]

    def answer(self, name, *given):
        return getattr(self, name)(*given)

    def wt_start(self, n):
        if n not in (1, 2, 3, 4, 5):
            return [-22]
        self.n = n
        self.all = []
        return [0]

    def wt_weigh(self, p, y):
        if p not in range(1, 3 ** self.n) or y not in range(-10000, 10001):
            return [-22]
        if len(self.all) == 8:
            return [-28]
        self.all.append([p, y])
        return [len(self.all) - 1]

    def wt_drop(self, r):
        if r not in range(len(self.all)):
            return [-2]
        self.all.pop(r)
        return [len(self.all)]

    def wt_read(self, r, y):
        if r not in range(len(self.all)):
            return [-2]
        if y not in range(-10000, 10001):
            return [-22]
        before = self.all[r][1]
        self.all[r][1] = y
        return [0, before]

    def wt_told(self, r):
        if r not in range(len(self.all)):
            return [-2]
        return list(self.all[r])

    def wt_turn(self, r):
        if r not in range(len(self.all)):
            return [-2]
        p, y = self.all[r]
        turned = sum(3 ** i * (-count % 3) for i, count in enumerate(counts(p, self.n)))
        self.all[r] = [turned, -y]
        return [turned]

    def wt_together(self, i, j):
        if i not in range(self.n) or j not in range(self.n):
            return [-2]
        return [0, self.table()[i][j]]

    def wt_crosses(self):
        table = self.table()
        return [sum(1 for i in range(self.n) for j in range(i) if table[i][j] == 0)]

    def wt_can(self):
        told = self.told()
        return [sum(told)] + told + [0] * (5 - self.n)

    def wt_whole(self):
        return [0, determinant(self.table())]

    def wt_weight(self, i):
        if i not in range(self.n):
            return [-2]
        return self.if_all_told(lambda: self.weights()[i])

    def wt_sure(self, i):
        if i not in range(self.n):
            return [-2]
        return self.if_all_told(lambda: self.unsure(i))

    def wt_all(self):
        return self.if_all_told(lambda: sum(self.unsure(i) for i in range(self.n)))

    def if_all_told(self, find):
        if 0 in self.told():
            return [-33]
        found = find()
        return [0, found.numerator, found.denominator]
