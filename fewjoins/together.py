"""Nets put beside one another, behind one another, and in lanes."""

from fewjoins.errors import NoFit, Nought, TooMany
from fewjoins.nets import MOST_JOINS, MOST_OUTS, joining, rows_of
from fewjoins.rows import MOST_GIVENS, joined


def beside(net, other):
    """Tells the net of two nets beside one another, each with givens of its own."""
    many, joins, outs = net
    others, other_joins, other_outs = other
    refuse_too_many(many + others, len(joins) + len(other_joins), len(outs) + len(other_outs))
    things = list(range(many)) + numbers_from(many + others, joins)
    other_things = list(range(many, many + others)) + numbers_from(many + others + len(joins), other_joins)
    all_joins = renumbered(joins, things) + renumbered(other_joins, other_things)
    all_outs = [things[out] for out in outs] + [other_things[out] for out in other_outs]
    return (many + others, tuple(all_joins), tuple(all_outs))


def behind(net, other):
    """Tells the net of a net and of another one whose givens are its outs."""
    many, joins, outs = net
    others, other_joins, other_outs = other
    if others != len(outs):
        raise NoFit("the second net has not as many givens as the first one has outs")
    refuse_too_many(many, len(joins) + len(other_joins), len(other_outs))
    things = list(outs) + numbers_from(many + len(joins), other_joins)
    added = renumbered(other_joins, things)
    refuse_nought(rows_of(net), added)
    return (many, joins + tuple(added), tuple([things[out] for out in other_outs]))


def laned(net, lanes):
    """Tells the net that is a net in each of so many lanes."""
    many, joins, outs = net
    refuse_too_many(many * lanes, len(joins) * lanes, len(outs) * lanes)
    all_joins = [(a * lanes + lane, b * lanes + lane) for a, b in joins for lane in range(lanes)]
    all_outs = [out * lanes + lane for out in outs for lane in range(lanes)]
    return (many * lanes, tuple(all_joins), tuple(all_outs))


def refuse_too_many(many, joins, outs):
    """Refuses what would have more givens, joinings or outs than a net may have."""
    if many > MOST_GIVENS or joins > MOST_JOINS or outs > MOST_OUTS:
        # Its words leave out how many: a number of very many figures can't be written out.
        raise TooMany("there would be more givens, joinings or outs than a net may have")


def refuse_nought(rows, added):
    """Refuses joinings, added behind things with these rows, where one is of things with the same row."""
    told = list(rows)
    for at, (a, b) in enumerate(added):
        if told[a] == told[b]:
            raise Nought(at)
        told.append(joined(told[a], told[b]))


def numbers_from(first, joins):
    """Tells the numbers of joinings that stand from a number on."""
    return list(range(first, first + len(joins)))


def renumbered(joins, things):
    """Tells joinings with new numbers for their things."""
    return [joining(things[a], things[b]) for a, b in joins]
