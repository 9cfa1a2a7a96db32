"""Rows and settings: sets of givens, kept as whole numbers."""

MOST_GIVENS = 12


def weight(row):
    """Tells how many givens are in a row."""
    return len(givens_of(row))


def givens_of(row):
    """Tells the givens of a row, rising."""
    return [given for given in range(row.bit_length()) if row >> given & 1]


def row_of(givens):
    """Tells the row of those givens that stand in a list an odd number of times."""
    row = 0
    for given in givens:
        row = joined(row, 1 << given)
    return row


def joined(one, other):
    """Tells the row of those givens that are in just one of two rows."""
    return one ^ other


def tells(row, setting):
    """Tells 1 where an odd number of a row's givens are yes at a setting, else 0."""
    return weight(row & setting) & 1


def crossed(many, rows):
    """Tells for each of so many givens the places of the rows that have it, kept as givens are in a row."""
    return [row_of([place for place, row in enumerate(rows) if row >> given & 1]) for given in range(many)]
