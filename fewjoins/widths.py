"""Nets for any width, told by rules."""

from fewjoins.errors import NoWidth
from fewjoins.plain import chained
from fewjoins.rows import MOST_GIVENS, givens_of

MOST_ALL_SUMS = 4


def running(n):
    """Tells the net whose out k makes the givens 0 to k, one by one."""
    refuse_width(n, 1, MOST_GIVENS)
    joins = []
    sums = running_sums(n, joins, list(range(n)))
    return (n, tuple(joins), tuple(sums))


def running_halves(n):
    """Tells the net whose out k makes the givens 0 to k, by halves."""
    refuse_width(n, 1, MOST_GIVENS)
    joins = []
    sums = sums_by_halves(n, joins, list(range(n)))
    return (n, tuple(joins), tuple(sums))


def all_but(n, clean):
    """Tells the net whose out k makes all givens but k."""
    refuse_width(n, 2, MOST_GIVENS)
    joins = []
    outs = parted_sums(n, joins) if clean else taken_out(n, joins)
    return (n, tuple(joins), tuple(outs))


def windows(n, w):
    """Tells the net whose out k makes the w givens from k on."""
    refuse_width(n, 2, MOST_GIVENS)
    refuse_width(w, 2, n)
    joins = []
    sums = running_sums(n, joins, list(range(n)))
    others = [chained(n, joins, [sums[first + w - 1], sums[first - 1]]) for first in range(1, n - w + 1)]
    return (n, tuple(joins), tuple([sums[w - 1]] + others))


def neighbours(n):
    """Tells the net whose out k makes the givens k and k + 1."""
    refuse_width(n, 2, MOST_GIVENS)
    joins = [(given, given + 1) for given in range(n - 1)]
    return (n, tuple(joins), tuple(range(n, n + len(joins))))


def all_sums(n):
    """Tells the net whose out k makes the row k + 1."""
    refuse_width(n, 1, MOST_ALL_SUMS)
    joins = []
    things = {}
    for row in range(1, 1 << n):
        *others, greatest = givens_of(row)
        things[row] = chained(n, joins, [things[row - (1 << greatest)], greatest]) if others else greatest
    return (n, tuple(joins), tuple(things.values()))


def refuse_width(width, least, most):
    """Refuses a width that is below or above what is told."""
    if not least <= width <= most:
        raise NoWidth("there is no net of this width")


def running_sums(many, joins, things):
    """Joins things one by one, behind the joinings that are there, and tells what comes of each."""
    sums = [things[0]]
    for thing in things[1:]:
        sums.append(chained(many, joins, [sums[-1], thing]))
    return sums


def sums_by_halves(many, joins, things):
    """Joins things by halves, behind the joinings that are there, and tells their running sums."""
    if len(things) == 1:
        return list(things)
    half = (len(things) + 1) // 2
    front = sums_by_halves(many, joins, things[:half])
    others = sums_by_halves(many, joins, things[half:])
    return front + [chained(many, joins, [front[-1], part]) for part in others]


def taken_out(many, joins):
    """Joins all givens, then takes each one out, and tells what comes of it."""
    total = chained(many, joins, list(range(many)))
    return [chained(many, joins, [total, given]) for given in range(many)]


def parted_sums(many, joins):
    """Joins what is ahead of each given with what is behind it, and tells what comes of it."""
    ahead = running_sums(many, joins, list(range(many - 1)))
    from_behind = running_sums(many, joins, list(range(many - 1, 0, -1)))
    behind = from_behind[::-1]
    parted = [chained(many, joins, [ahead[given - 1], behind[given]]) for given in range(1, many - 1)]
    return [behind[0]] + parted + [ahead[-1]]
