"""Wishes and nets turned about: their outs become givens, and their givens outs."""

from fewjoins.errors import Bare, Loose, Nought, TooMany
from fewjoins.nets import MOST_JOINS, joining, own_rows
from fewjoins.rows import MOST_GIVENS, crossed, joined


def turned_wish(wish):
    """Tells the wish whose row k has the places of the rows that have given k."""
    many, rows = wish
    if len(rows) > MOST_GIVENS:
        raise TooMany(f"a wish of {len(rows)} rows would have so many givens, turned about")
    turned = crossed(many, rows)
    if 0 in turned:
        raise Bare(turned.index(0))
    return (len(rows), tuple(turned))


def turned_net(net):
    """Tells the net that makes, turned about, what a net makes."""
    many, joins, outs = net
    if len(outs) > MOST_GIVENS or len(joins) + len(outs) - many > MOST_JOINS:
        raise TooMany("the net would have too many givens or joinings, turned about")
    uses = out_uses(net)
    rows = own_rows(len(outs))
    made = []
    # A joining's two things stand ahead of it, so all its uses are there when it is reached.
    for at, (a, b) in reversed(list(enumerate(joins))):
        got = joined_uses(many + at, uses[many + at], rows, made)
        uses[a].append(got)
        uses[b].append(got)
    turned = [joined_uses(given, uses[given], rows, made) for given in reversed(range(many))]
    return (len(outs), tuple(made), tuple(turned[::-1]))


def out_uses(net):
    """Tells for each thing of a net the list of the places of the outs that it is."""
    many, joins, outs = net
    uses = [[] for thing in range(many + len(joins))]
    for place, out in enumerate(outs):
        uses[out].append(place)
    return uses


def joined_uses(thing, uses, rows, made):
    """Joins the uses of a thing one by one, behind what is made, and tells what the thing gets."""
    if not uses:
        raise Loose(thing)
    got = uses[0]
    for use in uses[1:]:
        if rows[got] == rows[use]:
            raise Nought(thing)
        made.append(joining(got, use))
        rows.append(joined(rows[got], rows[use]))
        got = len(rows) - 1
    return got
