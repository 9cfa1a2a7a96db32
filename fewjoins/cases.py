"""Fewest joinings for few givens, with a paper that fewer won't do."""

from fewjoins.caselook import first_cases, may_join
from fewjoins.errors import TooMany
from fewjoins.rows import joined
from fewjoins.tidy import tidied

# Beyond these a search could take too long.
FEW_GIVENS = 4
FEW_GIVENS_COUNT = 11
MORE_GIVENS = 6
MORE_GIVENS_COUNT = 3


def tried(wish, clean, count):
    """Tells (True, a net with at most so many joinings that makes a wish), or (False, a paper that none does)."""
    many, rows = wish
    if not is_tried(many, count):
        raise TooMany("this count of joinings is not tried for so many givens")
    found, told = searched(first_cases(wish, clean, count))
    if found:
        return (True, net_of_rows(wish, clean, told))
    return (False, told)


def is_tried(many, count):
    """Tells whether a count of joinings is tried for wishes of so many givens."""
    most = FEW_GIVENS_COUNT if many <= FEW_GIVENS else MORE_GIVENS_COUNT
    return many <= MORE_GIVENS and 0 <= count <= most


def least(wish, clean):
    """Tells a net with the fewest joinings that makes a wish, and a paper that one joining less won't do, or None."""
    if wish[0] > FEW_GIVENS:
        raise TooMany(f"fewest joinings are told for at most {FEW_GIVENS} givens")
    count = 0
    paper = None
    found, told = tried(wish, clean, count)
    while not found:
        count += 1
        paper = told
        found, told = tried(wish, clean, count)
    return (told, paper)


def searched(cases):
    """Tells (True, known rows with all wished ones among them), or (False, a paper for these cases)."""
    lacking = cases.lacking()
    if not lacking:
        return True, cases.known
    if cases.lacks_too_many():
        return False, ("rows",)
    for row in lacking:
        if cases.is_far(row):
            return False, ("far", row)
    free = cases.free_rows()
    for row in lacking:
        if row in free:
            return searched_made(cases, row)
    return searched_next(cases, free)


def searched_made(cases, row):
    """Tells the same, where a row of the wish is a next row and not shut."""
    found, told = searched(cases.with_row(row, cases.shut))
    if found:
        return True, told
    return False, ("made", row, told)


def searched_next(cases, free):
    """Tells the same, trying each of the next rows that are not shut."""
    papers = []
    for at, row in enumerate(free):
        found, told = searched(cases.with_row(row, cases.shut + free[:at]))
        if found:
            return True, told
        papers.append(told)
    return False, ("next", tuple(papers))


def net_of_rows(wish, clean, known):
    """Tells the net that makes known rows in their order, without those that the wish doesn't need."""
    many, rows = wish
    joins = [first_joining(known[:at], row, clean) for at, row in enumerate(known) if at >= many]
    return tidied((many, tuple(joins), tuple([known.index(row) for row in rows])))


def first_joining(things, row, clean):
    """Tells the first joining, of things with these rows, that makes a row."""
    pairs = [(a, b) for b, other in enumerate(things) for a, one in enumerate(things[:b])
             if joined(one, other) == row and may_join(clean, one, other)]
    return pairs[0]
