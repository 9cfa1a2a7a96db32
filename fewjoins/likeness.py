"""By likeness: a row is made from nothing, or from a row like it that is made already."""

from fewjoins.plain import chained, refuse_joins
from fewjoins.rows import givens_of, joined, weight

# No row of a wish is 0, so in the place of a made row it stands for nothing.
NOTHING = 0


def likeness_net(wish):
    """Tells the net that makes a wish by likeness."""
    many, rows = wish
    joins = []
    made = {}
    waiting = [row for row in rows if weight(row) > 1]
    while waiting:
        row, start = cheapest(waiting, [NOTHING] + list(made))
        things = givens_of(joined(row, start))
        if start != NOTHING:
            things = [made[start]] + things
        refuse_joins(len(joins) + len(things) - 1)
        made[row] = chained(many, joins, things)
        # Alike rows cost nothing now, so they come next, and get the same thing.
        waiting = [other for other in waiting if other != row]
    outs = [made[row] if row in made else givens_of(row)[0] for row in rows]
    return (many, tuple(joins), tuple(outs))


def cheapest(waiting, starts):
    """Tells the row that is made at the least cost, and what it is made from; of several the first ones."""
    ways = [(cost(row, start), place, turn)
            for place, row in enumerate(waiting) for turn, start in enumerate(starts)]
    least, place, turn = min(ways)
    return waiting[place], starts[turn]


def cost(row, start):
    """Tells how many joinings make a row from nothing, or from a made row."""
    if start == NOTHING:
        return weight(row) - 1
    return weight(joined(row, start))
