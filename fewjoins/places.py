"""In place: as many cells as givens, and steps that join what one cell holds into another one."""

from fewjoins.errors import Leans, NoFit
from fewjoins.nets import joining, own_rows
from fewjoins.rank import basis
from fewjoins.rows import joined


def after(many, steps):
    """Tells the rows that the cells hold behind a list of steps."""
    cells = own_rows(many)
    for a, b in steps:
        cells[b] = joined(cells[a], cells[b])
    return cells


def placed(wish):
    """Tells steps that make a wish in place, and for each row the cell that then holds it."""
    refuse_unplaced(wish)
    many, rows = wish
    held = list(rows)
    chosen = {}
    undone = []
    for given in range(many):
        having = [place for place, row in enumerate(held) if row >> given & 1]
        first = [place for place in having if place not in chosen][0]
        chosen[first] = given
        for place in having:
            if place != first:
                held[place] = joined(held[first], held[place])
                undone.append((first, place))
    # A row's cell may be known only when all are chosen, so they are told in the end.
    steps = [(chosen[first], chosen[place]) for first, place in reversed(undone)]
    return (steps, [chosen[place] for place in range(many)])


def refuse_unplaced(wish):
    """Refuses a wish that is not made in place."""
    many, rows = wish
    if len(rows) != many:
        raise NoFit("the wish has not as many rows as givens")
    kept = basis(rows)
    for place in range(many):
        if place not in kept:
            raise Leans(place)


def net_of_steps(many, steps):
    """Tells the net with a joining for each step, and with what the cells hold in the end as its outs."""
    held = list(range(many))
    joins = []
    for a, b in steps:
        joins.append(joining(held[a], held[b]))
        held[b] = many + len(joins) - 1
    return (many, tuple(joins), tuple(held))
