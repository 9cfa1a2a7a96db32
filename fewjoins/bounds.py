"""Bounds: how many joinings a wish needs at least, each with a paper."""

from fewjoins.rows import weight


def bound(wish):
    """Tells a number of joinings that no net that makes a wish comes below, and its paper."""
    many, rows = wish
    classes = classes_of(rows)
    hang = (hang_number(rows, classes), ("hang", classes))
    places = first_places(rows)
    if not places:
        return hang
    unlike = (unlike_number(rows, places), ("unlike", places))
    return unlike if unlike[0] >= hang[0] else hang


def first_places(rows):
    """Tells the first places of all unlike rows of weight 2 or more, rising."""
    return [place for place, row in enumerate(rows) if weight(row) > 1 and row not in rows[:place]]


def classes_of(rows):
    """Tells all places in classes, rows that hang together in one class, the classes by their first places."""
    classes = []
    for place, row in enumerate(rows):
        met = [places for places in classes if givens_in(rows, places) & row]
        classes = [places for places in classes if places not in met]
        classes.append(sorted([other for places in met for other in places] + [place]))
    return sorted(classes)


def givens_in(rows, places):
    """Tells the row of all givens that are in some row at these places."""
    givens = 0
    for place in places:
        givens |= rows[place]
    return givens


def unlike_number(rows, places):
    """Tells the number of the paper that the rows at these places are unlike."""
    return len(places) + min([weight(rows[place]) for place in places]) - 2


def hang_number(rows, classes):
    """Tells the number of the paper that the rows of each of these classes hang together."""
    return sum([weight(givens_in(rows, places)) - 1 for places in classes])
