"""Nets of joinings, and what is told of them."""

from fewjoins.kinds import is_tuple, is_whole
from fewjoins.rows import MOST_GIVENS, joined

MOST_JOINS = 132
MOST_OUTS = 24


def is_net(thing):
    """Tells of anything whether it is a net."""
    if not is_tuple(thing, 3, 3):
        return False
    many, joins, outs = thing
    return is_whole(many, 1, MOST_GIVENS) and are_joins(many, joins) and are_outs(many + len(joins), outs)


def are_joins(many, joins):
    """Tells of anything whether it is the joinings of a net of so many givens."""
    if not is_tuple(joins, 0, MOST_JOINS):
        return False
    rows = own_rows(many)
    for join in joins:
        if not is_join(rows, join):
            return False
        rows.append(joined(rows[join[0]], rows[join[1]]))
    return True


def is_join(rows, join):
    """Tells of anything whether it joins two of the things that have these rows."""
    if not is_tuple(join, 2, 2):
        return False
    a, b = join
    last = len(rows) - 1
    return is_whole(a, 0, last) and is_whole(b, 0, last) and a < b and rows[a] != rows[b]


def are_outs(things, outs):
    """Tells of anything whether it is the outs of a net of so many things."""
    return is_tuple(outs, 1, MOST_OUTS) and all([is_whole(out, 0, things - 1) for out in outs])


def own_rows(many):
    """Tells the rows of the givens."""
    return [1 << given for given in range(many)]


def joining(one, other):
    """Tells the joining of two things, whichever has the lesser number."""
    return (min(one, other), max(one, other))


def all_words(net, words):
    """Tells the words of all things of a net, handed those of its givens."""
    many, joins, outs = net
    told = list(words)
    for a, b in joins:
        told.append(joined(told[a], told[b]))
    return told


def words_of(net, words):
    """Tells the words of a net's outs, handed those of its givens."""
    many, joins, outs = net
    told = all_words(net, words)
    return [told[out] for out in outs]


# Rows are joined as words are, so a net tells its things' rows when it works on
# its givens' rows.


def rows_of(net):
    """Tells the rows of all things of a net."""
    return all_words(net, own_rows(net[0]))


def made_by(net):
    """Tells the rows of a net's outs."""
    return words_of(net, own_rows(net[0]))


def levels(net):
    """Tells the levels of all things of a net."""
    many, joins, outs = net
    told = [0] * many
    for a, b in joins:
        told.append(max(told[a], told[b]) + 1)
    return told


def height(net):
    """Tells the greatest level of an out."""
    many, joins, outs = net
    told = levels(net)
    return max([told[out] for out in outs], default=0)


def is_clean(net):
    """Tells whether a net is without taking out."""
    many, joins, outs = net
    rows = rows_of(net)
    return all([rows[a] & rows[b] == 0 for a, b in joins])
