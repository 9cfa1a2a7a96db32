"""Bettered nets: a joining is made of two other things where that leaves fewer joinings."""

from fewjoins.errors import TooMany
from fewjoins.nets import rows_of
from fewjoins.rows import joined
from fewjoins.tidy import tidied

MOST_BETTERED = 24


def bettered(net):
    """Tells a net that makes the same rows, tidied, and with fewer joinings where another pair saves some."""
    if len(net[1]) > MOST_BETTERED:
        raise TooMany(f"nets of at most {MOST_BETTERED} joinings are bettered")
    told = tidied(net)
    fewer = with_fewer(told)
    while fewer is not None:
        told = fewer
        fewer = with_fewer(told)
    return told


def with_fewer(net):
    """Tells the tidied net with the first other pair that leaves fewer joinings, or None."""
    many, joins, outs = net
    rows = rows_of(net)
    for at in range(len(joins)):
        for pair in pairs_for(rows[:many + at], rows[many + at]):
            changed = tidied((many, joins[:at] + (pair,) + joins[at + 1:], outs))
            if len(changed[1]) < len(joins):
                return changed
    return None


def pairs_for(rows, row):
    """Tells all pairs, of things with these rows, that make a row, by the first, then the second thing."""
    return [(a, b) for a, one in enumerate(rows) for b, other in enumerate(rows) if a < b and joined(one, other) == row]
