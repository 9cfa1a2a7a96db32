"""Wishes and nets turned about [18, 19], and what points 2 and 3 say of them."""

import unittest

from fewjoins.errors import Bare, JoinError, Loose, Nought, TooMany
from fewjoins.judged import first_fault, is_wish
from fewjoins.nets import is_net, made_by
from fewjoins.turning import turned_net, turned_wish
from samples import long_net, some_nets, some_wishes

NETS = some_nets(81, 1500)
WISHES = some_wishes(83, 300)


def refusal(deed, handed):
    """What a call is refused with, as its class and its field, or None where it is not refused."""
    try:
        deed(handed)
    except JoinError as error:
        fields = [getattr(error, name) for name in ("given", "thing", "at") if hasattr(error, name)]
        return (type(error), *fields)
    return None


def slow_wish(wish):
    """Point 18 word by word, its refusals left aside."""
    many, rows = wish
    turned = []
    for given in range(many):
        turned.append(sum(2 ** place for place, row in enumerate(rows) if row // 2 ** given % 2))
    return (len(rows), tuple(turned))


def slow_net(net):
    """Point 19 word by word: the net, or what it is refused with."""
    many, joins, outs = net
    if len(outs) > 12 or len(joins) + len(outs) - many > 132:
        return (TooMany,)
    new_joins = []
    new_rows = [{place} for place in range(len(outs))]
    got = {}
    for thing in range(many + len(joins) - 1, -1, -1):
        uses = [place for place in range(len(outs)) if outs[place] == thing]
        for at in range(len(joins) - 1, -1, -1):
            if thing in joins[at]:
                uses.append(got[many + at])
        if not uses:
            return (Loose, thing)
        last = uses.pop(0)
        while uses:
            use = uses.pop(0)
            if new_rows[last] == new_rows[use]:
                return (Nought, thing)
            new_joins.append((min(last, use), max(last, use)))
            new_rows.append(new_rows[last] ^ new_rows[use])
            last = len(new_rows) - 1
        got[thing] = last
    return (len(outs), tuple(new_joins), tuple(got[given] for given in range(many)))


class TurnedWish(unittest.TestCase):
    def test_told_ones(self):
        self.assertEqual(turned_wish((3, (7, 3))), (2, (3, 3, 1)))
        self.assertEqual(turned_wish((2, (1, 3, 2))), (3, (3, 6)))
        self.assertEqual(turned_wish((3, (6, 5, 5))), (3, (6, 1, 7)))
        self.assertEqual(turned_wish((3, (1, 2, 4))), (3, (1, 2, 4)))

    def test_one_given_and_one_row(self):
        self.assertEqual(turned_wish((1, (1,))), (1, (1,)))
        self.assertEqual(turned_wish((1, (1, 1, 1))), (3, (7,)))
        self.assertEqual(turned_wish((3, (7,))), (1, (1, 1, 1)))

    def test_twelve_givens_and_twelve_rows(self):
        self.assertEqual(turned_wish((12, (4095,) * 12)), (12, (4095,) * 12))
        running = tuple(2 ** (given + 1) - 1 for given in range(12))
        self.assertEqual(turned_wish((12, running)), (12, tuple(4096 - 2 ** given for given in range(12))))

    def test_drawn_wishes(self):
        told = 0
        for wish in WISHES:
            if refusal(turned_wish, wish) is None:
                self.assertEqual(turned_wish(wish), slow_wish(wish))
                self.assertTrue(is_wish(turned_wish(wish)))
                told += 1
        self.assertGreater(told, 100)

    def test_turned_twice_it_is_the_same(self):
        for wish in WISHES:
            if refusal(turned_wish, wish) is None:
                self.assertEqual(turned_wish(turned_wish(wish)), wish)

    def test_too_many(self):
        self.assertIsNone(refusal(turned_wish, (1, (1,) * 12)))
        self.assertEqual(refusal(turned_wish, (1, (1,) * 13)), (TooMany,))
        self.assertEqual(refusal(turned_wish, (12, (4095,) * 24)), (TooMany,))

    def test_bare(self):
        self.assertEqual(refusal(turned_wish, (2, (2,))), (Bare, 0))
        self.assertEqual(refusal(turned_wish, (2, (1, 1))), (Bare, 1))
        self.assertEqual(refusal(turned_wish, (4, (1, 4, 5))), (Bare, 1))
        self.assertEqual(refusal(turned_wish, (12, (2047,) * 12)), (Bare, 11))
        self.assertEqual(refusal(turned_wish, (12, (4094,))), (Bare, 0))

    def test_drawn_wishes_are_refused_just_where_a_given_is_in_no_row(self):
        for wish in WISHES:
            if len(wish[1]) <= 12:
                bare = [given for given in range(wish[0]) if not any(row >> given & 1 for row in wish[1])]
                self.assertEqual(refusal(turned_wish, wish), (Bare, bare[0]) if bare else None)

    def test_too_many_is_told_ahead_of_bare(self):
        self.assertEqual(refusal(turned_wish, (2, (1,) * 13)), (TooMany,))
        self.assertEqual(refusal(turned_wish, (2, (1,) * 12)), (Bare, 1))

    def test_is_made_of_tuples_and_whole_numbers(self):
        many, rows = turned_wish((3, (7, 3)))
        self.assertIs(type(rows), tuple)
        self.assertEqual({type(many)} | {type(row) for row in rows}, {int})


class TurnedNet(unittest.TestCase):
    def test_no_joining(self):
        self.assertEqual(turned_net((1, (), (0,))), (1, (), (0,)))
        self.assertEqual(turned_net((2, (), (1, 0))), (2, (), (1, 0)))
        self.assertEqual(turned_net((12, (), tuple(range(11, -1, -1)))), (12, (), tuple(range(11, -1, -1))))

    def test_one_joining(self):
        self.assertEqual(turned_net((2, ((0, 1),), (2,))), (1, (), (0, 0)))
        self.assertEqual(turned_net((2, ((0, 1),), (2, 0))), (2, ((0, 1),), (2, 0)))
        self.assertEqual(turned_net((2, ((0, 1),), (2, 1))), (2, ((0, 1),), (0, 2)))
        self.assertEqual(turned_net((1, (), (0, 0))), (2, ((0, 1),), (2,)))

    def test_outs_stand_ahead_of_joinings_among_the_uses(self):
        # Given 0 is out 2, and taken by things 3 and 5, which got 0 and 1.
        net = (3, ((0, 1), (2, 3), (0, 1)), (4, 5, 0))
        self.assertEqual(turned_net(net), (3, ((0, 1), (1, 2), (0, 4)), (5, 3, 0)))

    def test_joinings_are_gone_through_from_the_last_to_the_first(self):
        # Given 0 is taken by things 3, 4 and 5, which got 0, 3 and 2.
        net = (3, ((0, 1), (0, 2), (0, 4)), (3, 4, 5))
        self.assertEqual(turned_net(net), (3, ((1, 2), (2, 3), (0, 4)), (5, 0, 3)))

    def test_places_of_an_out_rise(self):
        # Given 0 is outs 0, 2 and 3.
        self.assertEqual(turned_net((2, (), (0, 1, 0, 0))), (4, ((0, 2), (3, 4)), (5, 1)))

    def test_new_joinings_stand_from_the_last_thing_to_the_first(self):
        net = (2, ((0, 1),), (0, 0, 1, 1, 2, 2))
        self.assertEqual(turned_net(net), (6, ((4, 5), (2, 3), (6, 7), (0, 1), (6, 9)), (10, 8)))

    def test_most_givens_and_outs(self):
        summed = (12, ((0, 1),) + tuple((k, 10 + k) for k in range(2, 12)), (22,))
        self.assertEqual(turned_net(summed), (1, (), (0,) * 12))
        self.assertEqual(turned_net((1, (), (0,) * 12)), summed)

    def test_drawn_nets(self):
        for net in NETS:
            due = slow_net(net)
            told = refusal(turned_net, net)
            self.assertEqual(turned_net(net) if told is None else told, due, net)

    def test_drawn_nets_make_the_wish_turned_about(self):
        told = 0
        for net in NETS:
            if refusal(turned_net, net) is None:
                turned = turned_net(net)
                self.assertTrue(is_net(turned))
                wish = turned_wish((net[0], tuple(made_by(net))))
                self.assertIsNone(first_fault(turned, wish))
                self.assertEqual(len(turned[1]), len(net[1]) + len(net[2]) - net[0])
                told += len(net[1]) > 1
        self.assertGreater(told, 20)

    def test_drawn_nets_are_refused_in_each_way(self):
        told = [refusal(turned_net, net) for net in NETS]
        for kind, least in ((Loose, 100), (Nought, 10), (TooMany, 5)):
            self.assertGreater(len([one for one in told if one is not None and one[0] is kind]), least)

    def test_too_many_outs(self):
        self.assertIsNone(refusal(turned_net, (1, (), (0,) * 12)))
        self.assertEqual(refusal(turned_net, (1, (), (0,) * 13)), (TooMany,))
        self.assertEqual(refusal(turned_net, (12, (), tuple(range(12)) * 2)), (TooMany,))

    def test_too_many_joinings(self):
        # Each joining is an out, or taken by the next one: turned about there are 132, then 133.
        many, joins, outs = long_net(2, 132, 1)
        self.assertEqual(len(turned_net((many, joins, (133, 132)))[1]), 132)
        self.assertTrue(is_net(turned_net((many, joins, (133, 132)))))
        self.assertEqual(refusal(turned_net, (many, joins, (133, 132, 1))), (TooMany,))
        self.assertEqual(refusal(turned_net, (many, joins[:131], (132, 131, 1))), None)
        self.assertEqual(len(turned_net((many, joins[:131], (132, 131, 1)))[1]), 132)

    def test_givens_count_against_too_many_joinings(self):
        self.assertEqual(refusal(turned_net, long_net(12, 132, 12)), (Loose, 10))
        self.assertEqual(refusal(turned_net, long_net(11, 132, 11)), (Loose, 9))
        self.assertEqual(refusal(turned_net, long_net(11, 132, 12)), (TooMany,))

    def test_132_joinings_and_as_many_turned_about(self):
        # A square of rows over twelve givens: each thing is taken once at least, no two uses have the same row.
        net = grid_net()
        self.assertEqual((net[0], len(net[1]), len(net[2])), (12, 132, 12))
        turned = turned_net(net)
        self.assertTrue(is_net(turned))
        self.assertEqual(len(turned[1]), 132)
        self.assertIsNone(first_fault(turned, turned_wish((12, tuple(made_by(net))))))

    def test_loose(self):
        self.assertEqual(refusal(turned_net, (2, (), (0,))), (Loose, 1))
        self.assertEqual(refusal(turned_net, (2, (), (1, 1))), (Loose, 0))
        self.assertEqual(refusal(turned_net, (2, ((0, 1),), (0, 1))), (Loose, 2))
        self.assertEqual(refusal(turned_net, (3, ((0, 1), (2, 3)), (3, 2))), (Loose, 4))

    def test_the_last_loose_thing_is_told(self):
        self.assertEqual(refusal(turned_net, (4, (), (2,))), (Loose, 3))
        self.assertEqual(refusal(turned_net, (4, (), (3,))), (Loose, 2))
        self.assertEqual(refusal(turned_net, (3, ((0, 1), (0, 2)), (3,))), (Loose, 4))

    def test_nought(self):
        # Thing 0 is taken by 2 and 3, which are joined: out 0 has it twice.
        net = (2, ((0, 1), (0, 2)), (3,))
        self.assertEqual(refusal(turned_net, net), (Nought, 0))
        # Thing 2 is taken by 3 and 4, of which out 0 is made.
        net = (4, ((2, 3), (0, 4), (1, 4), (5, 6)), (7,))
        self.assertEqual(refusal(turned_net, net), (Nought, 4))

    def test_nought_at_a_later_joining_of_a_thing(self):
        # The uses of given 0 have the rows 2, 1 and 3: the first two, joined, have the third one's row.
        self.assertEqual(refusal(turned_net, (2, ((0, 1), (0, 2), (0, 2)), (3, 4))), (Nought, 0))

    def test_loose_ahead_of_nought_where_it_comes_first(self):
        # Thing 4 is loose, and given 0 is due as well.
        self.assertEqual(refusal(turned_net, (2, ((0, 1), (0, 2), (0, 2)), (3,))), (Loose, 4))
        # Given 1 has a use, given 2 none; given 0 comes behind both.
        self.assertEqual(refusal(turned_net, (3, ((0, 1), (0, 3)), (4,))), (Loose, 2))

    def test_nought_ahead_of_loose_where_it_comes_first(self):
        net = (3, ((1, 2), (1, 3)), (4,))
        self.assertEqual(refusal(turned_net, net), (Nought, 1))
        self.assertEqual(refusal(turned_net, (2, ((0, 1), (0, 2)), (3,))), (Nought, 0))

    def test_too_many_is_told_ahead_of_the_others(self):
        self.assertEqual(refusal(turned_net, (2, (), (0,) * 13)), (TooMany,))
        self.assertEqual(refusal(turned_net, (2, (), (0,) * 12)), (Loose, 1))
        self.assertEqual(refusal(turned_net, (2, ((0, 1), (0, 2)), (3,) * 13)), (TooMany,))
        self.assertEqual(refusal(turned_net, (2, ((0, 1), (0, 2)), (3,) * 12)), (Nought, 0))
        self.assertEqual(refusal(turned_net, (2, ((0, 1),) * 132, (0, 1, 2))), (TooMany,))
        self.assertEqual(refusal(turned_net, (2, ((0, 1),) * 132, (0, 1))), (Loose, 133))

    def test_asked_again_the_same_is_told(self):
        for net in NETS[:200]:
            if refusal(turned_net, net) is None:
                self.assertEqual(turned_net(net), turned_net(net))
            else:
                self.assertEqual(refusal(turned_net, net), refusal(turned_net, net))


def grid_net():
    """A net in place of twelve cells: each joining changes a cell, and the outs are what the cells hold."""
    held = list(range(12))
    joins = []
    for step in range(132):
        a, b = step % 12, (step % 12 + 1 + step // 12) % 12
        joins.append((min(held[a], held[b]), max(held[a], held[b])))
        held[b] = 12 + step
    return (12, tuple(joins), tuple(held))


if __name__ == "__main__":
    unittest.main()
