"""What a thing is, asked of anything."""


def is_whole(thing, least, most):
    """Tells whether a thing is a whole number from least to most."""
    # To Python a truth is a number, too; to the document it is none.
    return isinstance(thing, int) and not isinstance(thing, bool) and least <= thing <= most


def is_tuple(thing, least, most):
    """Tells whether a thing is a tuple of least to most things."""
    return isinstance(thing, tuple) and least <= len(thing) <= most
