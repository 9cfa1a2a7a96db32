"""By common pairs: two things that stand together in the most rows are joined first."""

from fewjoins.plain import refuse_joins
from fewjoins.rows import givens_of


def pairs_net(wish):
    """Tells the net that makes a wish by common pairs."""
    many, rows = wish
    joins = []
    held = [givens_of(row) for row in rows]
    while any([len(things) > 1 for things in held]):
        refuse_joins(len(joins) + 1)
        pair = commonest(held)
        held = [with_pair(things, pair, many + len(joins)) for things in held]
        joins.append(pair)
    return (many, tuple(joins), tuple([things[0] for things in held]))


def commonest(held):
    """Tells the pair that stands in the most rows, of several the least one."""
    counts = {}
    for things in held:
        for pair in pairs_in(things):
            counts[pair] = counts.get(pair, 0) + 1
    least, pair = min([(-count, pair) for pair, count in counts.items()])
    return pair


def pairs_in(things):
    """Tells all pairs of a rising list of things, the lesser number first."""
    return [(one, other) for place, one in enumerate(things) for other in things[place + 1:]]


def with_pair(things, pair, new):
    """Tells a row's things with a new one in the place of a pair, where both stand in it."""
    if pair[0] in things and pair[1] in things:
        # The new thing has the greatest number, so at the end the things still rise.
        return [thing for thing in things if thing not in pair] + [new]
    return things
