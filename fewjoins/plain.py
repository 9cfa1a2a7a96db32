"""The plain way: each row by itself, given by given."""

from fewjoins.errors import TooMany
from fewjoins.nets import MOST_JOINS, joining
from fewjoins.rows import givens_of, weight


def plain_net(wish):
    """Tells the net that joins the givens of each row by themselves, rising."""
    many, rows = wish
    refuse_joins(sum([weight(row) - 1 for row in rows]))
    joins = []
    outs = [chained(many, joins, givens_of(row)) for row in rows]
    return (many, tuple(joins), tuple(outs))


def refuse_joins(count):
    """Refuses more joinings than a net may have."""
    if count > MOST_JOINS:
        raise TooMany(f"the net would have more than {MOST_JOINS} joinings")


def chained(many, joins, things):
    """Joins things one by one, behind the joinings that are there, and tells what comes last."""
    last = things[0]
    for thing in things[1:]:
        joins.append(joining(last, thing))
        last = many + len(joins) - 1
    return last
