"""Texts of nets and wishes."""

from fewjoins.errors import NoText
from fewjoins.nets import MOST_JOINS, MOST_OUTS, is_join, own_rows
from fewjoins.rows import MOST_GIVENS, givens_of, joined, row_of

# No number in these texts has more figures, and Python itself reads none of some thousand.
MOST_FIGURES = 3


def net_text(net):
    """Tells the text of a net."""
    many, joins, outs = net
    return "\n".join([f"net {many}"] + [f"join {a} {b}" for a, b in joins] + [f"out {out}" for out in outs])


def wish_text(wish):
    """Tells the text of a wish."""
    many, rows = wish
    return "\n".join([f"wish {many}"] + [row_text(row) for row in rows])


def row_text(row):
    """Tells the row of a text that stands for a row of a wish."""
    return " ".join(["row"] + [str(given) for given in givens_of(row)])


def read_net(text):
    """Reads a net from its text."""
    rows = text_rows(text)
    many = read_many("net", rows[0])
    things = own_rows(many)
    joins = []
    outs = []
    for at, row in enumerate(rows[1:], start=1):
        join = tuple(numbers_behind("join", row))
        out = numbers_behind("out", row)
        if not outs and len(joins) < MOST_JOINS and is_join(things, join):
            joins.append(join)
            things.append(joined(things[join[0]], things[join[1]]))
        elif len(outs) < MOST_OUTS and len(out) == 1 and out[0] < len(things):
            outs.append(out[0])
        else:
            raise NoText(at)
    refuse_unended(rows, outs)
    return (many, tuple(joins), tuple(outs))


def read_wish(text):
    """Reads a wish from its text."""
    rows = text_rows(text)
    many = read_many("wish", rows[0])
    told = []
    for at, row in enumerate(rows[1:], start=1):
        givens = numbers_behind("row", row)
        if len(told) == MOST_OUTS or not are_givens(many, givens):
            raise NoText(at)
        told.append(row_of(givens))
    refuse_unended(rows, told)
    return (many, tuple(told))


def text_rows(text):
    """Tells the rows of a text; what is no text is refused."""
    if not isinstance(text, str):
        raise NoText(0)
    return text.split("\n")


def read_many(word, row):
    """Reads the number of givens from the first row of a text."""
    numbers = numbers_behind(word, row)
    if len(numbers) != 1 or not 1 <= numbers[0] <= MOST_GIVENS:
        raise NoText(0)
    return numbers[0]


def refuse_unended(rows, told):
    """Refuses rows of a text that are right as far as they go, but tell nothing."""
    if not told:
        raise NoText(len(rows))


def are_givens(many, numbers):
    """Tells whether numbers are givens of a row, rising."""
    return bool(numbers) and numbers == sorted(set(numbers)) and numbers[-1] < many


def numbers_behind(word, row):
    """Tells the numbers that stand behind a word in a row of a text; none where something else stands there."""
    first, *others = row.split(" ")
    numbers = [number_of(other) for other in others]
    return numbers if first == word and None not in numbers else []


def number_of(word):
    """Tells the number that a word is, or None."""
    if len(word) > MOST_FIGURES or not word.isascii() or not word.isdigit():
        return None
    number = int(word)
    return number if str(number) == word else None
