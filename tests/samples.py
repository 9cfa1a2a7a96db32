"""Nets, rows and odd things to test with; the same at every run."""


class Numbers:
    """Numbers that look unordered, always the same ones for the same start."""

    def __init__(self, start):
        self.state = start

    def below(self, bound):
        self.state = (self.state * 6364136223846793005 + 1442695040888963407) % 2 ** 64
        return (self.state >> 33) % bound


def some_net(numbers, many, joins, outs):
    """A net with so many givens, joinings (none with one given) and outs."""
    rows = [2 ** given for given in range(many)]
    made = []
    while many > 1 and len(made) < joins:
        a, b = sorted((numbers.below(len(rows)), numbers.below(len(rows))))
        if a < b and rows[a] != rows[b]:
            made.append((a, b))
            rows.append(rows[a] ^ rows[b])
    return (many, tuple(made), tuple(numbers.below(len(rows)) for out in range(outs)))


def some_nets(start, count):
    """So many nets of all sizes, the greatest ones among them."""
    numbers = Numbers(start)
    nets = [some_net(numbers, many, joins, outs)
            for many in (1, 2, 12) for joins in (0, 1, 132) for outs in (1, 24)]
    for turn in range(count):
        sizes = (1 + numbers.below(6), numbers.below(14), 1 + numbers.below(5))
        nets.append(some_net(numbers, *sizes))
    return nets


def some_rows(numbers, many, length):
    """A list of rows, row 0 and alike ones among them perhaps."""
    return [numbers.below(2 ** many) for place in range(length)]


def some_wish(numbers, many, length):
    """A wish of so many givens and rows, alike ones among them perhaps."""
    return (many, tuple(1 + numbers.below(2 ** many - 1) for place in range(length)))


def some_wishes(start, count):
    """So many wishes of all sizes, with least and most givens and rows among them."""
    numbers = Numbers(start)
    wishes = [some_wish(numbers, many, length) for many in (1, 2, 12) for length in (1, 2, 12, 24)]
    for turn in range(count):
        wishes.append(some_wish(numbers, 1 + numbers.below(6), 1 + numbers.below(8)))
    return wishes


def wish_of_small_rows(count):
    """A wish of twelve givens and of so many unlike rows, first those of two givens, then of three.

    By common pairs and by likeness each row is a joining. Wishes of at most 24 rows come to far fewer
    joinings than 132 in these ways, so that only one of more rows can show where they are refused.
    """
    rows = [row for size in (2, 3) for row in range(4096) if bin(row).count("1") == size]
    return (12, tuple(rows[:count]))


def long_net(many, joins, outs):
    """A net of two givens or more with just so many joinings, all its outs the last thing."""
    made = tuple((0, many - 1 + step) for step in range(joins))
    return (many, made, (many + joins - 1,) * outs)


def nested(inner, depth, kind):
    """A thing within so many tuples or lists."""
    thing = inner
    for level in range(depth):
        thing = kind([thing])
    return thing


def odd_things():
    """Things of all kinds that point 2 calls anything, none of them a net, a wish or a part of one."""
    things = [
        None, True, False, "", "net", "(1, (), (0,))", "abc", "01", (), [], ((),), [()], [[]],
        -1, -10 ** 59, 10 ** 59, 10 ** 60 - 1, 1 - 10 ** 60,
        (None,), (True, False), (None, None, None), ("a", "b", "c"), ("a", "b"), [1, 2, 3], [1, 2],
    ]
    for depth in (1, 2, 29, 30):
        for kind in (tuple, list):
            for inner in (-1, None, "", True):
                things.append(nested(inner, depth, kind))
    return things
