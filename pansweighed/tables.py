"""What things count in weighings, the table of it, and what follows from the table, in whole numbers.

A weighing is a pair here: the number of its pans, its reading.
"""

COUNTS = (0, 1, -1)
TURNED = (0, 2, 1)


def pans_beyond(things):
    """The least number that is too great for the pans of so many things."""
    beyond = 1
    for thing in range(things):
        beyond = beyond * 3
    return beyond


def counts_of(pans, things):
    """What each thing counts on these pans."""
    counts = []
    rest = pans
    for thing in range(things):
        counts.append(COUNTS[rest % 3])
        rest = rest // 3
    return counts


def turned_pans(pans):
    """The same pans with left and right exchanged."""
    turned = 0
    place = 1
    while place <= pans:
        turned = turned + place * TURNED[pans // place % 3]
        place = place * 3
    return turned


def without(xs, k):
    """The list without what stands at place k."""
    return xs[:k] + xs[k + 1:]


def products_sum(xs, ys):
    """The products of what stands at the same place in both, together."""
    return sum([x * y for x, y in zip(xs, ys)])


def shown_by(weights, pans):
    """What the weights show of these pans."""
    return products_sum(counts_of(pans, len(weights)), weights)


def thing_counts(weighings, things):
    """Of each thing what it counts in each weighing."""
    rows = [counts_of(weighing[0], things) for weighing in weighings]
    return [[row[thing] for row in rows] for thing in range(things)]


def table_of(weighings, things):
    """What each two things count, multiplied, in all weighings, together."""
    columns = thing_counts(weighings, things)
    return [[products_sum(first, second) for second in columns] for first in columns]


def cleared_row(row, pivot_row, k, last_pivot):
    """The row with 0 in column k."""
    # Each number is a minor of the table and of the ones beside it, so the last pivot divides it without a rest.
    return [(pivot_row[k] * x - row[k] * y) // last_pivot for x, y in zip(row, pivot_row)]


def cleared(table):
    """The table with ones beside it, cleared by rows, so that each column with a pivot has nothing else.

    All pivots are the same number at the end, above 0. If each thing has one, that number is the
    determinant, and what stands beside is the inverse times it.
    """
    things = len(table)
    rows = [table[i] + [1 if j == i else 0 for j in range(things)] for i in range(things)]
    last_pivot = 1
    for k in range(things):
        pivot_row = rows[k]
        # What weights show, squared, together is never below 0. So what is left of the table has no number
        # below 0 on its diagonal, and beside a 0 there only 0: rows need not be exchanged to find a pivot.
        if pivot_row[k] != 0:
            rows = [row if i == k else cleared_row(row, pivot_row, k, last_pivot) for i, row in enumerate(rows)]
            last_pivot = pivot_row[k]
    return rows


def determinant(table):
    """The table's determinant: 0 just if not all things can be told."""
    rows = cleared(table)
    return min([rows[k][k] for k in range(len(rows))])


def adjugate(table):
    """The table's inverse times its determinant; if that is 0, what the same minors of the table come to."""
    things = len(table)
    rows = cleared(table)
    empty = [k for k in range(things) if rows[k][k] == 0]
    if len(empty) == 0:
        return [row[things:] for row in rows]
    if len(empty) > 1:
        return [[0] * things for row in rows]
    # Each row of it, multiplied with the table, is 0, and so is what stands beside the one empty row. That is its
    # row there too, since both have the last pivot on the diagonal; each other row is a multiple of this one.
    k = empty[0]
    minors = rows[k][things:]
    return [[x * y // minors[k] for y in minors] for x in minors]


def told_things(table):
    """Of each thing 1 if it can be told, else 0."""
    things = len(table)
    # A thing can be told if its row has it alone. If another one is there too, both can change together and
    # show the same; an empty row is that of a thing which may weigh anything, if others follow.
    return [1 if row[:things].count(0) == things - 1 else 0 for row in cleared(table)]


def scaled_weights(weighings, things):
    """Each thing's weight times the determinant, if that isn't 0."""
    readings = [weighing[1] for weighing in weighings]
    shares = [products_sum(counts, readings) for counts in thing_counts(weighings, things)]
    return [products_sum(row, shares) for row in adjugate(table_of(weighings, things))]


def scaled_offs(weighings, things):
    """Of each weighing its reading less what the weights show, times the determinant, if that isn't 0."""
    whole = determinant(table_of(weighings, things))
    weights = scaled_weights(weighings, things)
    return [reading * whole - shown_by(weights, pans) for pans, reading in weighings]


def shown_of_all(weights):
    """What the weights show of all pans, in the order of their numbers, from 0."""
    shown = [0]
    for weight in weights:
        shown = shown + [x + weight for x in shown] + [x - weight for x in shown]
    return shown


def grown_of_all(table):
    """Of all pans, in the order of their numbers, from 0: for each two things what they count there, multiplied,
    times what the table has for them, together."""
    grown = [0]
    for k, row in enumerate(table):
        # Thing k counts with itself, and with each of those before it twice, as the table has both orders.
        beside = shown_of_all([2 * x for x in row[:k]])
        left = [x + y + row[k] for x, y in zip(grown, beside)]
        right = [x - y + row[k] for x, y in zip(grown, beside)]
        grown = grown + left + right
    return grown


def wholes_with_more(table):
    """The determinant with one weighing more, of all pans, in the order of their numbers, from 1."""
    whole = determinant(table)
    # By what the counts of one weighing add to the table the determinant grows as the adjugate tells.
    return [whole + x for x in grown_of_all(adjugate(table))[1:]]


def greatest_whole(table):
    """The first pans by which one weighing more makes the determinant greatest, and that determinant."""
    wholes = wholes_with_more(table)
    greatest = max(wholes)
    return [wholes.index(greatest) + 1, greatest]


def spread(table, gap):
    """The table with a row and a column of 0 put in at the gap."""
    wide = [row[:gap] + [0] + row[gap:] for row in table]
    return wide[:gap] + [[0] * (len(table) + 1)] + wide[gap:]


def diagonal_sum(table):
    """What the table has for each thing with itself, together."""
    return sum([row[i] for i, row in enumerate(table)])


def diagonals_with_more(table):
    """The adjugate's diagonal, together, with one weighing more, of all pans, in the order of their numbers, from 1."""
    things = len(table)
    together = [[0] * things for row in table]
    # The diagonal has for each thing the determinant of the table without it, and that grows by its own adjugate.
    for gap in range(things):
        fewer = spread(adjugate([without(row, gap) for row in without(table, gap)]), gap)
        together = [[x + y for x, y in zip(first, second)] for first, second in zip(together, fewer)]
    diagonal = diagonal_sum(adjugate(table))
    return [diagonal + x for x in grown_of_all(together)[1:]]


def surest_pans(table):
    """The first pans by which one weighing more makes all weights surest, and how unsure they are then: above, below.

    Nothing, if with none more all things could be told.
    """
    best = []
    diagonals = diagonals_with_more(table)
    for k, whole in enumerate(wholes_with_more(table)):
        # Unsure they are by the diagonal over the determinant; of two fractions the products across tell the less.
        if whole > 0 and (len(best) == 0 or diagonals[k] * best[2] < best[1] * whole):
            best = [k + 1, diagonals[k], whole]
    return best


def fraction(above, below):
    """Both numbers (below is above 0) with nothing in common."""
    common = below
    rest = abs(above)
    while rest > 0:
        smaller = common % rest
        common = rest
        rest = smaller
    return [above // common, below // common]
