"""By common pairs [21], and what points 2 and 3 say of it."""

import itertools
import unittest

from fewjoins.errors import JoinError, TooMany
from fewjoins.judged import first_fault
from fewjoins.nets import is_clean, is_net, made_by
from fewjoins.pairs import pairs_net
from samples import Numbers, some_wish, some_wishes, wish_of_small_rows

WISHES = some_wishes(101, 300)


def slow_pairs(wish):
    """Point 21 word by word."""
    many, rows = wish
    held = [{given for given in range(many) if row >> given & 1} for row in rows]
    joins = []
    while max(len(things) for things in held) >= 2:
        best = None
        for pair in itertools.combinations(range(many + len(joins)), 2):
            stands = sum(set(pair) <= things for things in held)
            if stands and (best is None or stands > best[0]):
                best = (stands, pair)
        for things in held:
            if set(best[1]) <= things:
                things -= set(best[1])
                things.add(many + len(joins))
        joins.append(best[1])
    return (many, tuple(joins), tuple(min(things) for things in held))


class PairsNet(unittest.TestCase):
    def test_one_row(self):
        self.assertEqual(pairs_net((2, (3,))), (2, ((0, 1),), (2,)))
        self.assertEqual(pairs_net((3, (7,))), (3, ((0, 1), (2, 3)), (4,)))
        self.assertEqual(pairs_net((4, (15,))), (4, ((0, 1), (2, 3), (4, 5)), (6,)))
        self.assertEqual(pairs_net((5, (26,))), (5, ((1, 3), (4, 5)), (6,)))

    def test_the_pair_in_the_most_rows_comes_first(self):
        self.assertEqual(pairs_net((3, (6, 7))), (3, ((1, 2), (0, 3)), (3, 4)))
        self.assertEqual(pairs_net((5, (3, 24, 28))), (5, ((3, 4), (0, 1), (2, 5)), (6, 5, 7)))

    def test_a_new_thing_stands_in_pairs_too(self):
        self.assertEqual(pairs_net((4, (7, 15))), (4, ((0, 1), (2, 4), (3, 5)), (5, 6)))

    def test_alike_rows_are_counted_each(self):
        self.assertEqual(pairs_net((3, (3, 6, 6))), (3, ((1, 2), (0, 1)), (4, 3, 3)))
        self.assertEqual(pairs_net((3, (6, 3, 3))), (3, ((0, 1), (1, 2)), (4, 3, 3)))
        self.assertEqual(pairs_net((2, (3,) * 24)), (2, ((0, 1),), (2,) * 24))

    def test_of_several_the_least_first_thing(self):
        self.assertEqual(pairs_net((4, (12, 3))), (4, ((0, 1), (2, 3)), (5, 4)))
        self.assertEqual(pairs_net((4, (6, 9))), (4, ((0, 3), (1, 2)), (5, 4)))

    def test_of_several_the_least_second_thing(self):
        self.assertEqual(pairs_net((4, (9, 5, 3))), (4, ((0, 1), (0, 2), (0, 3)), (6, 5, 4)))

    def test_numbers_are_compared_as_numbers(self):
        # Were they compared as texts, 0 and 10 would come ahead of 0 and 2.
        self.assertEqual(pairs_net((11, (1025, 5))), (11, ((0, 2), (0, 10)), (12, 11)))
        self.assertEqual(pairs_net((11, (1536, 6))), (11, ((1, 2), (9, 10)), (12, 11)))

    def test_the_pair_is_left_where_only_one_of_both_stands(self):
        # The joined 0 and 1 stands in rows 0 and 1; row 2 keeps its own given 0.
        self.assertEqual(pairs_net((4, (3, 7, 9))), (4, ((0, 1), (0, 3), (2, 4)), (4, 6, 5)))

    def test_rows_of_one_given(self):
        self.assertEqual(pairs_net((1, (1,))), (1, (), (0,)))
        self.assertEqual(pairs_net((1, (1,) * 24)), (1, (), (0,) * 24))
        self.assertEqual(pairs_net((12, (2048, 1))), (12, (), (11, 0)))
        self.assertEqual(pairs_net((3, (4, 3, 1))), (3, ((0, 1),), (2, 3, 0)))

    def test_twelve_givens_in_one_row(self):
        many, joins, outs = pairs_net((12, (4095,)))
        self.assertEqual(joins[:6], ((0, 1), (2, 3), (4, 5), (6, 7), (8, 9), (10, 11)))
        self.assertEqual(joins[6:], ((12, 13), (14, 15), (16, 17), (18, 19), (20, 21)))
        self.assertEqual(outs, (22,))

    def test_drawn_wishes_held_against_the_words(self):
        for wish in WISHES:
            if wish[0] < 12 or len(wish[1]) < 12:
                self.assertEqual(pairs_net(wish), slow_pairs(wish), wish)

    def test_drawn_wishes_are_made(self):
        for wish in WISHES:
            told = pairs_net(wish)
            self.assertTrue(is_net(told))
            self.assertIsNone(first_fault(told, wish))
            self.assertTrue(is_clean(told))
            plainly = sum(bin(row).count("1") - 1 for row in wish[1])
            self.assertLessEqual(len(told[1]), plainly)

    def test_24_unlike_rows_of_twelve_givens(self):
        numbers = Numbers(103)
        wish = some_wish(numbers, 12, 24)
        self.assertEqual(pairs_net(wish), slow_pairs(wish))
        self.assertEqual(made_by(pairs_net(wish)), list(wish[1]))

    def test_132_joinings_and_one_more(self):
        within = wish_of_small_rows(132)
        self.assertEqual(len(pairs_net(within)[1]), 132)
        self.assertIsNone(first_fault(pairs_net(within), within))
        beyond = wish_of_small_rows(133)
        for many, rows in (beyond, (12, beyond[1][::-1]), (12, beyond[1] + (4095,)), wish_of_small_rows(286)):
            with self.assertRaises(JoinError) as caught:
                pairs_net((many, rows))
            self.assertIs(type(caught.exception), TooMany)
        self.assertEqual(len(pairs_net((12, within[1] + (1, 2048) + within[1]))[1]), 132)

    def test_not_refused_where_the_plain_way_would_be(self):
        self.assertEqual(len(pairs_net((12, (4095,) * 24))[1]), 11)

    def test_asked_again_the_same_is_told(self):
        for wish in WISHES[12:60]:
            self.assertEqual(pairs_net(wish), pairs_net(wish))


if __name__ == "__main__":
    unittest.main()
