"""What things count in weighings, the table of it, and what follows from the table, in whole numbers.

A weighing is a pair here: the number of its pans, its reading.
"""

COUNTS = (0, 1, -1)
TURNED = (0, 2, 1)


def pans_beyond(things):
    """The least number that is too great for the pans of so many things."""
    beyond = 1
    for thing in range(things):
        beyond = beyond * 3
    return beyond


def counts_of(pans, things):
    """What each thing counts on these pans."""
    counts = []
    rest = pans
    for thing in range(things):
        counts.append(COUNTS[rest % 3])
        rest = rest // 3
    return counts


def turned_pans(pans):
    """The same pans with left and right exchanged."""
    turned = 0
    place = 1
    while place <= pans:
        turned = turned + place * TURNED[pans // place % 3]
        place = place * 3
    return turned


def products_sum(xs, ys):
    """The products of what stands at the same place in both, together."""
    return sum([x * y for x, y in zip(xs, ys)])


def thing_counts(weighings, things):
    """Of each thing what it counts in each weighing."""
    rows = [counts_of(weighing[0], things) for weighing in weighings]
    return [[row[thing] for row in rows] for thing in range(things)]


def table_of(weighings, things):
    """What each two things count, multiplied, in all weighings, together."""
    columns = thing_counts(weighings, things)
    return [[products_sum(first, second) for second in columns] for first in columns]


def cleared_row(row, pivot_row, k, last_pivot):
    """The row with 0 in column k."""
    # Each number is a minor of the table and of the ones beside it, so the last pivot divides it without a rest.
    return [(pivot_row[k] * x - row[k] * y) // last_pivot for x, y in zip(row, pivot_row)]


def cleared(table):
    """The table with ones beside it, cleared by rows, so that each column with a pivot has nothing else.

    All pivots are the same number at the end, above 0. If each thing has one, that number is the
    determinant, and what stands beside is the inverse times it.
    """
    things = len(table)
    rows = [table[i] + [1 if j == i else 0 for j in range(things)] for i in range(things)]
    last_pivot = 1
    for k in range(things):
        pivot_row = rows[k]
        # What weights show, squared, together is never below 0. So what is left of the table has no number
        # below 0 on its diagonal, and beside a 0 there only 0: rows need not be exchanged to find a pivot.
        if pivot_row[k] != 0:
            rows = [row if i == k else cleared_row(row, pivot_row, k, last_pivot) for i, row in enumerate(rows)]
            last_pivot = pivot_row[k]
    return rows


def determinant(table):
    """The table's determinant: 0 just if not all things can be told."""
    rows = cleared(table)
    return min([rows[k][k] for k in range(len(rows))])


def scaled_inverse(table):
    """The table's inverse times its determinant, if that isn't 0."""
    things = len(table)
    return [row[things:] for row in cleared(table)]


def told_things(table):
    """Of each thing 1 if it can be told, else 0."""
    things = len(table)
    # A thing can be told if its row has it alone. If another one is there too, both can change together and
    # show the same; an empty row is that of a thing which may weigh anything, if others follow.
    return [1 if row[:things].count(0) == things - 1 else 0 for row in cleared(table)]


def scaled_weights(weighings, things):
    """Each thing's weight times the determinant, if that isn't 0."""
    readings = [weighing[1] for weighing in weighings]
    shares = [products_sum(counts, readings) for counts in thing_counts(weighings, things)]
    return [products_sum(row, shares) for row in scaled_inverse(table_of(weighings, things))]


def fraction(above, below):
    """Both numbers (below is above 0) with nothing in common."""
    common = below
    rest = abs(above)
    while rest > 0:
        smaller = common % rest
        common = rest
        rest = smaller
    return [above // common, below // common]
