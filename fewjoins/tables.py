"""Tables: what a row tells at all settings, as one whole number."""

from fewjoins.rows import row_of


def table_of(many, row):
    """Tells the number whose bit s is what a row tells at setting s."""
    table = 0
    settings = 1
    for given in range(many):
        # A given doubles the settings: where it is yes, a row that has it
        # tells the other one of what it tells without it.
        upper = table
        if row >> given & 1:
            upper ^= (1 << settings) - 1
        table |= upper << settings
        settings += settings
    return table


def row_with(many, table):
    """Tells the row that has a number as its table, or None where none has."""
    # At the setting with one given alone a row tells whether it has this given,
    # so no other row than this one can have the table.
    row = row_of([given for given in range(many) if table >> (1 << given) & 1])
    if table_of(many, row) == table:
        return row
    return None
