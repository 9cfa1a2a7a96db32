"""The looker of papers: whether one shows that so few joinings won't do for a wish."""

from fewjoins.kinds import is_tuple
from fewjoins.nets import own_rows
from fewjoins.rows import joined


def shown(wish, clean, count, paper):
    """Tells of anything whether it shows that no net with at most so many joinings makes a wish."""
    return first_cases(wish, clean, count).shown_by(paper)


def first_cases(wish, clean, count):
    """Tells the cases with which a paper begins: the givens known, nothing shut."""
    many, rows = wish
    return Cases(rows, clean, own_rows(many), [], count)


def may_join(clean, one, other):
    """Tells whether two rows may be joined: without taking out, where they have no given in common."""
    return not clean or one & other == 0


class Cases:
    """Cases with some rows known, some rows shut and a number of joinings left."""

    def __init__(self, wished, clean, known, shut, left):
        self.wished = wished
        self.clean = clean
        self.known = known
        self.shut = shut
        self.left = left

    def with_row(self, row, shut):
        """Tells the cases with a row known, too, these rows shut, and one joining fewer left."""
        return Cases(self.wished, self.clean, self.known + [row], shut, self.left - 1)

    def lacking(self):
        """Tells the unlike rows of the wish that are not known, rising."""
        return sorted({row for row in self.wished if row not in self.known})

    def free_rows(self):
        """Tells the next rows that are not shut, rising."""
        pairs = [(one, other) for at, one in enumerate(self.known) for other in self.known[:at]]
        made = {joined(one, other): True for one, other in pairs if may_join(self.clean, one, other)}
        return sorted([row for row in made if row not in self.known and row not in self.shut])

    def lacks_too_many(self):
        """Tells whether more unlike rows of the wish are not known than joinings are left."""
        return len(self.lacking()) > self.left

    def is_far(self, row):
        """Tells whether a row is no odd sum of so many known rows as joinings are left, and one, or fewer."""
        # Each sum is gone on from only where it first comes, as it has the fewest parts there.
        met = {0: True}
        newest = [0]
        parts = 0
        while parts <= self.left and row not in met:
            sums = [joined(total, part)
                    for total in newest for part in self.known if may_join(self.clean, total, part)]
            newest = sorted({total for total in sums if total not in met})
            met.update({total: True for total in newest})
            parts += 1
        return row not in met

    def shown_by(self, paper):
        """Tells of anything whether it is a paper for these cases."""
        if not is_tuple(paper, 1, 3):
            return False
        if paper[0] == "rows":
            return len(paper) == 1 and self.lacks_too_many()
        if paper[0] == "far":
            return len(paper) == 2 and self.shown_far(paper[1])
        if paper[0] == "made":
            return len(paper) == 3 and self.shown_made(paper[1], paper[2])
        if paper[0] == "next":
            return len(paper) == 2 and self.shown_next(paper[1])
        return False

    def shown_far(self, row):
        """Tells of anything whether it is a row of the wish that is too far."""
        # The givens' own rows are known, so that no truth passes for a row here.
        return row in self.lacking() and self.is_far(row)

    def shown_made(self, row, paper):
        """Tells of anything whether it is a row of the wish that can be made, and a paper for when it is."""
        if self.left < 1 or row not in self.lacking() or row not in self.free_rows():
            return False
        return self.with_row(row, self.shut).shown_by(paper)

    def shown_next(self, papers):
        """Tells of anything whether it is papers for whichever row is made next."""
        if self.left < 1 or not self.lacking():
            return False
        free = self.free_rows()
        if not is_tuple(papers, len(free), len(free)):
            return False
        for at, row in enumerate(free):
            if not self.with_row(row, self.shut + free[:at]).shown_by(papers[at]):
                return False
        return True
