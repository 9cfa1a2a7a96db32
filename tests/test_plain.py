"""The plain way [20], and what points 2 and 3 say of it."""

import unittest

from fewjoins.errors import JoinError, TooMany
from fewjoins.judged import first_fault
from fewjoins.nets import height, is_clean, is_net, made_by
from fewjoins.plain import plain_net
from samples import some_wishes

WISHES = some_wishes(91, 300)


def joinings(wish):
    """As many as all weights come to, less the rows."""
    return sum(bin(row).count("1") for row in wish[1]) - len(wish[1])


def slow_plain(wish):
    """Point 20 word by word."""
    many, rows = wish
    joins = []
    outs = []
    for row in rows:
        givens = [given for given in range(many) if row >> given & 1]
        thing = givens.pop(0)
        while givens:
            joins.append(tuple(sorted((thing, givens.pop(0)))))
            thing = many + len(joins) - 1
        outs.append(thing)
    return (many, tuple(joins), tuple(outs))


class PlainNet(unittest.TestCase):
    def test_told_ones(self):
        self.assertEqual(plain_net((3, (7,))), (3, ((0, 1), (2, 3)), (4,)))
        self.assertEqual(plain_net((3, (6, 7, 1))), (3, ((1, 2), (0, 1), (2, 4)), (3, 5, 0)))
        self.assertEqual(plain_net((4, (13,))), (4, ((0, 2), (3, 4)), (5,)))
        self.assertEqual(plain_net((5, (26, 3))), (5, ((1, 3), (4, 5), (0, 1)), (6, 7)))

    def test_rows_of_one_given(self):
        self.assertEqual(plain_net((1, (1,))), (1, (), (0,)))
        self.assertEqual(plain_net((1, (1,) * 24)), (1, (), (0,) * 24))
        self.assertEqual(plain_net((12, (2048, 1))), (12, (), (11, 0)))

    def test_alike_rows_are_made_again(self):
        self.assertEqual(plain_net((2, (3, 3))), (2, ((0, 1), (0, 1)), (2, 3)))

    def test_twelve_givens(self):
        joins = ((0, 1),) + tuple((k, 10 + k) for k in range(2, 12))
        self.assertEqual(plain_net((12, (4095,))), (12, joins, (22,)))

    def test_drawn_wishes(self):
        for wish in WISHES:
            if joinings(wish) <= 132:
                told = plain_net(wish)
                self.assertEqual(told, slow_plain(wish))
                self.assertTrue(is_net(told))
                self.assertIsNone(first_fault(told, wish))
                self.assertEqual(len(told[1]), joinings(wish))
                self.assertTrue(is_clean(told))
                self.assertEqual(height(told), max(bin(row).count("1") for row in wish[1]) - 1)

    def test_132_joinings_and_one_more(self):
        within = (12, (4095,) * 12)
        self.assertEqual(len(plain_net(within)[1]), 132)
        self.assertTrue(is_net(plain_net(within)))
        self.assertEqual(made_by(plain_net(within)), [4095] * 12)
        self.assertTrue(is_net(plain_net((12, within[1] + (1, 2048)))))
        with self.assertRaises(TooMany):
            plain_net((12, within[1] + (3,)))
        with self.assertRaises(TooMany):
            plain_net((12, (3,) + within[1]))
        with self.assertRaises(TooMany):
            plain_net((12, (4095,) * 24))

    def test_24_rows(self):
        rows = tuple(3 * 2 ** given for given in range(11)) * 2 + (4095, 4095)
        told = plain_net((12, rows))
        self.assertEqual(len(told[2]), 24)
        self.assertEqual(made_by(told), list(rows))

    def test_refused_just_above_132_joinings(self):
        for wish in WISHES:
            if joinings(wish) > 132:
                with self.assertRaises(JoinError) as caught:
                    plain_net(wish)
                self.assertIs(type(caught.exception), TooMany)

    def test_more_rows_than_24_are_not_refused(self):
        self.assertEqual(plain_net((1, (1,) * 30)), (1, (), (0,) * 30))

    def test_asked_again_the_same_is_told(self):
        for wish in WISHES[20:60]:
            self.assertEqual(plain_net(wish), plain_net(wish))


if __name__ == "__main__":
    unittest.main()
