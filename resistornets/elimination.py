"""Rows of whole numbers solved together, without a fraction on the way.

There are as many rows as unknowns, and just one choice of the unknowns keeps
to them all. Unknown by unknown, one row leads and clears it from all others.
Each number that arises is, up to its sign, a determinant of the rows as they
came: so dividing by the last lead's factor leaves no rest (Bareiss), and in
the end one and the same number stands before every unknown.
"""


# A row with a factor in this column is brought to where it leads; the rows above it have led already.
def with_lead(rows, column):
    at = column
    while rows[at][column] == 0:
        at += 1
    brought = list(rows)
    brought[column] = rows[at]
    brought[at] = rows[column]
    return brought


def cleared(row, lead, column, last):
    factor = row[column]
    return [(lead[column] * x - factor * y) // last for x, y in zip(row, lead)]


# What each unknown is when divided by the number that comes last.
def solved(rows):
    unknowns = len(rows)
    last = 1
    for column in range(unknowns):
        rows = with_lead(rows, column)
        lead = rows[column]
        rows = [row if at == column else cleared(row, lead, column, last) for at, row in enumerate(rows)]
        last = lead[column]
    return [row[-1] for row in rows] + [last]
