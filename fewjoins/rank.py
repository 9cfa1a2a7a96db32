"""Rank: which rows of a list are no odd sums of rows ahead of them."""

from fewjoins.rows import givens_of


def basis(rows):
    """Tells the places in the basis of a list of rows, rising."""
    return [place for place, rest, parts in leads_of(rows).values()]


def parts_of(rows, row):
    """Tells the places in the basis whose rows' odd sum a row is, or None."""
    rest, parts = reduced(leads_of(rows), row)
    if rest:
        return None
    # Places are kept as givens are in a row, so they are told likewise.
    return givens_of(parts)


def leads_of(rows):
    """Tells for each place in the basis a sum of rows in the basis, with a greatest given of its own.

    It is a dict, by that given's number and 1: of the place, the sum, and the places that it sums.
    """
    leads = {}
    for place, row in enumerate(rows):
        rest, parts = reduced(leads, row)
        if rest:
            leads[rest.bit_length()] = (place, rest, parts ^ (1 << place))
    return leads


def reduced(leads, row):
    """Tells what is left of a row when leads are joined to it, and the places that these sum.

    What is left is 0 just where the row is an odd sum of rows in the basis.
    """
    parts = 0
    while row.bit_length() in leads:
        place, rest, summed = leads[row.bit_length()]
        row ^= rest
        parts ^= summed
    return row, parts
