"""Settings that a list of rows tells alike, and settings at which its rows tell what is wanted."""

from fewjoins.errors import NoAnswer
from fewjoins.rank import basis, leads_of, parts_of
from fewjoins.rows import crossed, givens_of, row_of

# A given's column is the places of the rows that have it. The rows that tell 1
# at a setting are then the odd sum of its givens' columns, so that what is
# asked of settings is asked of odd sums of columns.


def blind(many, rows):
    """Tells the least settings at which each row tells 0, none an odd sum of those ahead of it."""
    columns = crossed(many, rows)
    kept = basis(columns)
    # A blind setting that is no odd sum of those ahead of it ends at a given
    # whose column is not in the basis. The least one has none but such as are in
    # the basis ahead of that given: any other one ends a lesser blind setting.
    ends = [given for given in range(many) if given not in kept]
    return [row_of([given] + parts_of(columns, columns[given])) for given in ends]


def setting_for(many, rows, wanted):
    """Tells the least setting at which each row tells its wanted number."""
    columns = crossed(many, rows)
    asked = row_of([place for place, number in enumerate(wanted) if number])
    givens = parts_of(columns, asked)
    if givens is None:
        raise NoAnswer(places_at_odds(columns, asked, len(rows)))
    # By givens of the basis alone it is the least one, as a blind setting is.
    return row_of(givens)


def places_at_odds(columns, asked, length):
    """Tells places whose rows' odd sum is 0, while an odd number of 1 is asked there."""
    # With the asked number as its least given, such rows' odd sum is that given alone.
    leads = leads_of(crossed(length, [asked] + columns))
    place, rest, parts = leads[1]
    return givens_of(parts)
