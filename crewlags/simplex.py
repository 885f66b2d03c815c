"""The best weights of some things no row of which weighs more than 1, with what shows that they are.

A row counts how often each thing comes in it. Columns are: a weight for each
thing, what each row lacks to 1, and the right side. All rows are integers over
one bottom, the number they were last turned at; every division below leaves no
rest.
"""


def first_rows(counts, worths):
    """The rows at which all weights are 0: one for each row of counts, and behind them that of the worths."""
    rows = []
    for at, row in enumerate(counts):
        lacks = [1 if other == at else 0 for other in range(len(counts))]
        rows.append(row + lacks + [1])
    rows.append([-worth for worth in worths] + [0] * (len(counts) + 1))
    return rows


def entering(rows):
    """The first column by which the sum can still grow, or None."""
    for column, worth in enumerate(rows[-1][:-1]):
        if worth < 0:
            return column
    return None


def leaving(rows, basis, column):
    """The row that first stops the growth of a column.

    Of several it is the one of the first column: with entering, this keeps the
    search from going round in rings (Bland).
    """
    best = None
    for at, row in enumerate(rows[:-1]):
        if row[column] <= 0:
            continue
        if best is None:
            best = at
            continue
        gap = row[-1] * rows[best][column] - rows[best][-1] * row[column]
        if gap < 0 or (gap == 0 and basis[at] < basis[best]):
            best = at
    return best


def turned(rows, at, column, bottom):
    """The rows over their new bottom, the column being settled by the row at."""
    turn = rows[at]
    new = []
    for place, row in enumerate(rows):
        if place == at:
            new.append(row)
        else:
            new.append([(turn[column] * a - row[column] * b) // bottom for a, b in zip(row, turn)])
    return new


def best_weights(counts, worths):
    """The weights and the amounts of the rows, as tops over one bottom, and the bottom.

    The weights times the worths have the greatest sum of all weights by which none of
    the rows weighs more than 1; each thing with a worth has to come in a row. Each
    thing comes in the amounts of the rows together at least as often as its worth is,
    and the sum of these amounts is that greatest sum.
    """
    rows = first_rows(counts, worths)
    basis = [len(worths) + at for at in range(len(counts))]
    bottom = 1
    column = entering(rows)
    while column is not None:
        at = leaving(rows, basis, column)
        basis[at] = column
        rows, bottom = turned(rows, at, column, bottom), rows[at][column]
        column = entering(rows)
    weights = [0] * len(worths)
    for row, settled in zip(rows, basis):
        if settled < len(worths):
            weights[settled] = row[-1]
    return weights, rows[-1][len(worths):-1], bottom
