"""By likeness [22], and what points 2 and 3 say of it."""

import unittest

from fewjoins.errors import JoinError, TooMany
from fewjoins.judged import first_fault
from fewjoins.likeness import likeness_net
from fewjoins.nets import is_clean, is_net
from samples import Numbers, some_wish, some_wishes, wish_of_small_rows

WISHES = some_wishes(111, 300)


def givens(row):
    return [given for given in range(row.bit_length()) if row >> given & 1]


def slow_likeness(wish):
    """Point 22 word by word; an alike row is made from the made one, at a cost of 0."""
    many, rows = wish
    joins = []
    got = {place: givens(row)[0] for place, row in enumerate(rows) if len(givens(row)) == 1}
    order = []
    while len(got) < len(rows):
        best = None
        for place, row in enumerate(rows):
            if place not in got:
                ways = [(len(givens(row)) - 1, None)]
                ways += [(len(givens(row ^ rows[other])), other) for other in order]
                for cost, other in ways:
                    if best is None or cost < best[0]:
                        best = (cost, place, other)
        cost, place, other = best
        if other is None:
            parts = givens(rows[place])
        else:
            parts = [got[other]] + givens(rows[place] ^ rows[other])
        thing = parts[0]
        for part in parts[1:]:
            joins.append(tuple(sorted((thing, part))))
            thing = many + len(joins) - 1
        got[place] = thing
        order.append(place)
    return (many, tuple(joins), tuple(got[place] for place in range(len(rows))))


class LikenessNet(unittest.TestCase):
    def test_one_row(self):
        self.assertEqual(likeness_net((2, (3,))), (2, ((0, 1),), (2,)))
        self.assertEqual(likeness_net((4, (15,))), (4, ((0, 1), (2, 4), (3, 5)), (6,)))
        self.assertEqual(likeness_net((5, (26,))), (5, ((1, 3), (4, 5)), (6,)))

    def test_the_least_cost_is_taken(self):
        self.assertEqual(likeness_net((4, (15, 7))), (4, ((0, 1), (2, 4), (3, 5)), (6, 5)))
        self.assertEqual(likeness_net((5, (31, 24))), (5, ((3, 4), (0, 5), (1, 6), (2, 7)), (8, 5)))

    def test_the_row_that_stands_first_waits_for_lesser_costs(self):
        # Row 192 costs 1 and row 15 then 3; row 31 costs 4, and 1 as soon as row 15 is made.
        told = likeness_net((8, (31, 192, 15)))
        self.assertEqual(told, (8, ((6, 7), (0, 1), (2, 9), (3, 10), (4, 11)), (12, 8, 11)))

    def test_of_several_the_row_that_stands_first(self):
        self.assertEqual(likeness_net((3, (6, 3))), (3, ((1, 2), (0, 1)), (3, 4)))
        self.assertEqual(likeness_net((3, (3, 6))), (3, ((0, 1), (1, 2)), (3, 4)))
        # Row 7 costs 1 from row 3 then, as row 24 does from nothing.
        self.assertEqual(likeness_net((5, (3, 7, 24))), (5, ((0, 1), (2, 5), (3, 4)), (5, 6, 7)))
        self.assertEqual(likeness_net((5, (3, 24, 7))), (5, ((0, 1), (3, 4), (2, 5)), (5, 6, 7)))

    def test_nothing_ahead_of_rows_made(self):
        # Row 11 costs 2 from nothing, and 2 from row 7.
        self.assertEqual(likeness_net((4, (7, 11))), (4, ((0, 1), (2, 4), (0, 1), (3, 6)), (5, 7)))

    def test_rows_made_in_the_order_in_which_they_were_made(self):
        # Row 48 is made first, then 15; row 55 costs 3 from both.
        joins = ((4, 5), (0, 1), (2, 7), (3, 8), (0, 6), (1, 10), (2, 11))
        self.assertEqual(likeness_net((6, (15, 48, 55))), (6, joins, (9, 6, 12)))

    def test_with_taking_out(self):
        told = likeness_net((5, (15, 30)))
        self.assertEqual(told, (5, ((0, 1), (2, 5), (3, 6), (0, 7), (4, 8)), (7, 9)))
        self.assertFalse(is_clean(told))

    def test_alike_rows_are_made_at_once(self):
        self.assertEqual(likeness_net((3, (7, 3, 7, 3))), (3, ((0, 1), (2, 3)), (4, 3, 4, 3)))
        self.assertEqual(likeness_net((2, (3,) * 24)), (2, ((0, 1),), (2,) * 24))

    def test_rows_of_one_given(self):
        self.assertEqual(likeness_net((1, (1,))), (1, (), (0,)))
        self.assertEqual(likeness_net((1, (1,) * 24)), (1, (), (0,) * 24))
        self.assertEqual(likeness_net((12, (2048, 1))), (12, (), (11, 0)))
        # Nothing is made from a row of one given.
        self.assertEqual(likeness_net((3, (4, 7, 4))), (3, ((0, 1), (2, 3)), (2, 4, 2)))

    def test_twelve_givens_in_one_row(self):
        joins = ((0, 1),) + tuple((k, 10 + k) for k in range(2, 12))
        self.assertEqual(likeness_net((12, (4095,))), (12, joins, (22,)))

    def test_drawn_wishes_held_against_the_words(self):
        for wish in WISHES:
            self.assertEqual(likeness_net(wish), slow_likeness(wish), wish)

    def test_drawn_wishes_of_more_givens_held_against_the_words(self):
        numbers = Numbers(113)
        for turn in range(40):
            wish = some_wish(numbers, 7 + numbers.below(6), 1 + numbers.below(24))
            self.assertEqual(likeness_net(wish), slow_likeness(wish), wish)

    def test_drawn_wishes_are_made(self):
        for wish in WISHES:
            told = likeness_net(wish)
            self.assertTrue(is_net(told))
            self.assertIsNone(first_fault(told, wish))
            plainly = sum(len(givens(row)) - 1 for row in wish[1])
            self.assertLessEqual(len(told[1]), plainly)

    def test_asked_again_the_same_is_told(self):
        for wish in WISHES[12:60]:
            self.assertEqual(likeness_net(wish), likeness_net(wish))

    def test_132_joinings_and_one_more(self):
        within = wish_of_small_rows(132)
        self.assertEqual(len(likeness_net(within)[1]), 132)
        self.assertIsNone(first_fault(likeness_net(within), within))
        beyond = wish_of_small_rows(133)
        for many, rows in (beyond, (12, beyond[1][::-1]), (12, beyond[1] + (4095,)), wish_of_small_rows(286)):
            with self.assertRaises(JoinError) as caught:
                likeness_net((many, rows))
            self.assertIs(type(caught.exception), TooMany)
        self.assertEqual(len(likeness_net((12, within[1] + (1, 2048) + within[1]))[1]), 132)

    def test_not_refused_where_the_plain_way_would_be(self):
        self.assertEqual(len(likeness_net((12, (4095,) * 24))[1]), 11)


if __name__ == "__main__":
    unittest.main()
