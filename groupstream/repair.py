"""Repair rows made of a group's data rows, and data rows found again from any n rows of a group."""

from groupstream.field import added, inverse, scaled


def weight(j, i):
    return inverse((128 + j) ^ i)


# rows: data rows by their number; not all of a group's need be there.
def weighted_sum(j, rows, width):
    total = [0] * width
    for i in sorted(rows):
        total = added(total, scaled(rows[i], weight(j, i)))
    return total


def repair_rows(data, k):
    rows = dict(enumerate(data))
    return [weighted_sum(j, rows, len(data[0])) for j in range(k)]


# rows: n rows of a group by the numbers of their packets, data or repair.
def data_rows(n, rows):
    wanted = [i for i in range(n) if i not in rows]
    known = {}
    for i in range(n):
        if i in rows:
            known[i] = rows[i]
    equations = [equation(which - n, wanted, known, rows[which]) for which in sorted(rows) if which >= n]
    for row, i in zip(solved(equations), wanted):
        known[i] = row[len(wanted):]
    return [known[i] for i in range(n)]


# The weights of the wanted rows, and behind them what their weighted sum must be.
def equation(j, wanted, known, row):
    return [weight(j, i) for i in wanted] + added(row, weighted_sum(j, known, len(row)))


# No pivot is ever 0 and no rows need be swapped: the weights are inverses of u xor v with all u apart from
# one another and from all v, and every square piece of such a table has an inverse.
def solved(equations):
    rows = list(equations)
    count = len(equations)
    for pivot in range(count):
        rows[pivot] = scaled(rows[pivot], inverse(rows[pivot][pivot]))
        for other in range(count):
            if other != pivot:
                rows[other] = added(rows[other], scaled(rows[pivot], rows[other][pivot]))
    return rows
