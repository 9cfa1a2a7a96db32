"""Fewjoins: odd sums of givens by fewest joinings."""
