"""The refusals, all straight under one base."""

# A class with a field hands its base a text: else Python would keep what the
# error was made of as well, and a list would be shared with its asker.


class JoinError(ValueError):
    """Any refusal."""


class NoFit(JoinError):
    """Two things that should go together have not as many givens, rows or outs."""


class TooMany(JoinError):
    """There are, or there would be, more things than can be had."""


class NoWidth(JoinError):
    """There is no net of this width."""


class NoRow(JoinError):
    """This is none of the rows that a desk is told."""


class NoName(JoinError):
    """This is no name, or nothing stands by it."""


class Nought(JoinError):
    """Two things with the same row would be joined."""

    def __init__(self, at):
        JoinError.__init__(self, f"two things with the same row would be joined at {at}")
        self.at = at


class Bare(JoinError):
    """A given is in no row."""

    def __init__(self, given):
        JoinError.__init__(self, f"given {given} is in no row")
        self.given = given


class Loose(JoinError):
    """A thing has no uses."""

    def __init__(self, thing):
        JoinError.__init__(self, f"thing {thing} has no uses")
        self.thing = thing


class Leans(JoinError):
    """A row is an odd sum of rows ahead of it."""

    def __init__(self, place):
        JoinError.__init__(self, f"the row at place {place} is an odd sum of rows ahead of it")
        self.place = place


class NoAnswer(JoinError):
    """No setting tells what is wanted."""

    def __init__(self, places):
        JoinError.__init__(self, "no setting tells what is wanted")
        self.places = list(places)


class NoText(JoinError):
    """This is not the text that it should be."""

    def __init__(self, row):
        JoinError.__init__(self, f"row {row} of the text is wrong")
        self.row = row
