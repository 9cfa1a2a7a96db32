"""Fewest steps in place, for few givens."""

from fewjoins.errors import TooMany
from fewjoins.nets import own_rows
from fewjoins.places import refuse_unplaced
from fewjoins.rows import joined

MOST_CELLS = 3


def fewest_steps(wish):
    """Tells a list of fewest steps behind which cell k holds row k."""
    refuse_unplaced(wish)
    many, rows = wish
    if many > MOST_CELLS:
        raise TooMany(f"fewest steps are told for at most {MOST_CELLS} givens")
    reached = [tuple(own_rows(many))]
    ways = {reached[0]: []}
    # What is reached grows by one step at a time, so the first way to a row of cells is a shortest one.
    while rows not in ways:
        reached = reached_next(many, reached, ways)
    return ways[rows]


def reached_next(many, reached, ways):
    """Tells all that is first reached by one step more, and adds the ways to it."""
    newly = []
    for cells in reached:
        for a, b in all_steps(many):
            changed = with_step(cells, a, b)
            if changed not in ways:
                ways[changed] = ways[cells] + [(a, b)]
                newly.append(changed)
    return newly


def all_steps(many):
    """Tells all steps that so many cells have."""
    return [(a, b) for a in range(many) for b in range(many) if a != b]


def with_step(cells, a, b):
    """Tells what the cells hold behind a step."""
    changed = list(cells)
    changed[b] = joined(cells[a], cells[b])
    return tuple(changed)
