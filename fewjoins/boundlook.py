"""The small checker of bounds."""

from fewjoins.bounds import classes_of, givens_in, hang_number, unlike_number
from fewjoins.kinds import is_tuple, is_whole
from fewjoins.rows import weight


def bound_shown(wish, number, paper):
    """Tells of anything whether it is a paper of a bound of a wish, with a number no less than this one."""
    many, rows = wish
    if not is_tuple(paper, 2, 2):
        return False
    word, parts = paper
    if word == "unlike":
        return are_unlike(rows, parts) and unlike_number(rows, parts) >= number
    if word == "hang":
        return are_classes(rows, parts) and hang_number(rows, parts) >= number
    return False


def are_places(rows, thing):
    """Tells of anything whether it is a rising list of places of these rows, not bare."""
    if not isinstance(thing, list) or not thing:
        return False
    if not all([is_whole(place, 0, len(rows) - 1) for place in thing]):
        return False
    return thing == sorted(set(thing))


def are_unlike(rows, thing):
    """Tells of anything whether it is places of unlike rows of weight 2 at least."""
    if not are_places(rows, thing):
        return False
    told = [rows[place] for place in thing]
    return len(set(told)) == len(told) and all([weight(row) > 1 for row in told])


def are_classes(rows, thing):
    """Tells of anything whether it is classes of places whose rows hang together, no given in two of them."""
    if not isinstance(thing, list) or not thing:
        return False
    taken = 0
    for places in thing:
        if not are_places(rows, places) or not hang_together(rows, places):
            return False
        givens = givens_in(rows, places)
        # No row is 0, so a place that stood in two classes would be met here, too.
        if taken & givens:
            return False
        taken |= givens
    return True


def hang_together(rows, places):
    """Tells whether the rows at these places hang together."""
    return len(classes_of([rows[place] for place in places])) == 1
