"""Wishes, and the looker that says whether a net makes one."""

from fewjoins.errors import NoFit
from fewjoins.kinds import is_tuple, is_whole
from fewjoins.nets import MOST_OUTS, made_by
from fewjoins.rows import MOST_GIVENS, joined


def is_wish(thing):
    """Tells of anything whether it is a wish."""
    if not is_tuple(thing, 2, 2):
        return False
    many, rows = thing
    if not is_whole(many, 1, MOST_GIVENS) or not is_tuple(rows, 1, MOST_OUTS):
        return False
    return all([is_whole(row, 1, (1 << many) - 1) for row in rows])


def first_fault(net, wish):
    """Tells None where a net makes a wish, else the first setting and place at which it fails."""
    many, rows = wish
    if net[0] != many or len(net[2]) != len(rows):
        raise NoFit("the net and the wish have not as many givens, or not as many outs as rows")
    # An out fails where the two rows, joined, tell 1. A row tells 0 as long as
    # none of its givens is yes, so first at the setting of its least given alone.
    strays = [joined(made, row) for made, row in zip(made_by(net), rows)]
    faults = [(stray & -stray, place) for place, stray in enumerate(strays) if stray]
    return min(faults, default=None)
