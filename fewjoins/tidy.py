"""Tidied nets: no row twice, and nothing on which no out leans."""

from fewjoins.nets import joining, rows_of


def tidied(net):
    """Tells the tidied net, which makes the same rows."""
    many, joins, outs = net
    stands = first_alike(rows_of(net))
    leant = leant_on(net, stands)
    numbers = list(range(many))
    kept = []
    for at, (a, b) in enumerate(joins):
        # A joining that is left out needs a number too, so that those behind
        # it keep their places in the list; nothing asks for it.
        numbers.append(many + len(kept))
        if many + at in leant:
            kept.append(joining(numbers[stands[a]], numbers[stands[b]]))
    return (many, tuple(kept), tuple([numbers[stands[out]] for out in outs]))


def first_alike(rows):
    """Tells for each thing the first thing that has the same row."""
    first = {}
    stands = []
    for thing, row in enumerate(rows):
        stands.append(first.setdefault(row, thing))
    return stands


def leant_on(net, stands):
    """Tells a dict of the things on which an out leans, the first ones with their rows."""
    many, joins, outs = net
    leant = {stands[out]: True for out in outs}
    for at, (a, b) in reversed(list(enumerate(joins))):
        if many + at in leant:
            leant[stands[a]] = True
            leant[stands[b]] = True
    return leant
