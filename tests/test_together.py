"""Nets beside one another, behind one another and in lanes [16, 17], and what points 2 and 3 say of them."""

import unittest

from fewjoins.errors import JoinError, NoFit, Nought, TooMany
from fewjoins.nets import is_net, made_by, rows_of, words_of
from fewjoins.together import behind, beside, laned
from samples import Numbers, long_net, some_net, some_nets

NETS = some_nets(71, 300)
ONE = (1, (), (0,))
PAIR = (2, ((0, 1),), (2,))


def refusal(deed, *handed):
    """What a call is refused with, as its class and its field, or None where it is not refused."""
    try:
        deed(*handed)
    except JoinError as error:
        return (type(error), getattr(error, "at", None))
    return None


def pairs_that_fit():
    """Nets, and nets with as many givens as those have outs."""
    numbers = Numbers(73)
    for turn in range(300):
        net = some_net(numbers, 1 + numbers.below(6), numbers.below(10), 1 + numbers.below(5))
        yield net, some_net(numbers, len(net[2]), numbers.below(10), 1 + numbers.below(5))


class Beside(unittest.TestCase):
    def test_told_ones(self):
        self.assertEqual(beside(PAIR, PAIR), (4, ((0, 1), (2, 3)), (4, 5)))
        self.assertEqual(beside(ONE, ONE), (2, (), (0, 1)))
        self.assertEqual(beside(ONE, PAIR), (3, ((1, 2),), (0, 3)))
        self.assertEqual(beside(PAIR, ONE), (3, ((0, 1),), (3, 2)))

    def test_joinings_of_joinings(self):
        net = (3, ((0, 1), (2, 3)), (4, 0))
        other = (2, ((0, 1), (0, 2), (2, 3)), (3, 4, 1))
        self.assertEqual(beside(net, other), (5, ((0, 1), (2, 5), (3, 4), (3, 7), (7, 8)), (6, 0, 8, 9, 4)))
        self.assertEqual(beside(other, net), (5, ((0, 1), (0, 5), (5, 6), (2, 3), (4, 8)), (6, 7, 1, 9, 2)))

    def test_makes_the_rows_of_both(self):
        for net, other in zip(NETS, reversed(NETS)):
            if refusal(beside, net, other) is None:
                told = beside(net, other)
                self.assertTrue(is_net(told))
                behind_them = [row << net[0] for row in made_by(other)]
                self.assertEqual(made_by(told), made_by(net) + behind_them)
                self.assertEqual(len(told[1]), len(net[1]) + len(other[1]))

    def test_joinings_stand_in_order(self):
        for net, other in pairs_that_fit():
            rows = rows_of(beside(net, other))
            many = net[0] + other[0]
            first = rows_of(net)[net[0]:]
            second = [row << net[0] for row in rows_of(other)[other[0]:]]
            self.assertEqual(rows[many:], first + second)

    def test_just_within_and_just_beyond_the_givens(self):
        self.assertTrue(is_net(beside((5, (), (0,)), (7, (), (6,)))))
        self.assertTrue(is_net(beside((11, (), (0,)), ONE)))
        self.assertEqual(refusal(beside, (6, (), (0,)), (7, (), (6,))), (TooMany, None))
        self.assertEqual(refusal(beside, (12, (), (0,)), ONE), (TooMany, None))
        self.assertEqual(refusal(beside, ONE, (12, (), (0,))), (TooMany, None))

    def test_just_within_and_just_beyond_the_joinings(self):
        for one, other in ((66, 66), (131, 1), (1, 131), (132, 0), (0, 132)):
            self.assertEqual(len(beside(long_net(2, one, 1), long_net(3, other, 1))[1]), 132)
            self.assertTrue(is_net(beside(long_net(2, one, 1), long_net(3, other, 1))))
        for one, other in ((66, 67), (132, 1), (1, 132), (132, 132)):
            self.assertEqual(refusal(beside, long_net(2, one, 1), long_net(3, other, 1)), (TooMany, None))

    def test_just_within_and_just_beyond_the_outs(self):
        self.assertEqual(len(beside((2, (), (0,) * 12), (2, (), (1,) * 12))[2]), 24)
        self.assertTrue(is_net(beside((2, (), (0,) * 23), ONE)))
        self.assertEqual(refusal(beside, (2, (), (0,) * 12), (2, (), (1,) * 13)), (TooMany, None))
        self.assertEqual(refusal(beside, (2, (), (0,) * 24), ONE), (TooMany, None))

    def test_is_told_anew_and_the_same(self):
        for net, other in pairs_that_fit():
            self.assertEqual(beside(net, other), beside(net, other))


class Behind(unittest.TestCase):
    def test_told_ones(self):
        self.assertEqual(behind(PAIR, ONE), PAIR)
        self.assertEqual(behind(ONE, ONE), ONE)
        net = (3, ((0, 1), (1, 2)), (3, 4))
        self.assertEqual(behind(net, PAIR), (3, ((0, 1), (1, 2), (3, 4)), (5,)))
        self.assertEqual(behind(net, (2, (), (1, 0, 1))), (3, ((0, 1), (1, 2)), (4, 3, 4)))

    def test_the_lesser_number_stands_first(self):
        net = (3, ((0, 1),), (3, 2, 0))
        other = (3, ((0, 1), (1, 2), (2, 3)), (5, 3, 2))
        self.assertEqual(behind(net, other), (3, ((0, 1), (2, 3), (0, 2), (0, 4)), (6, 4, 0)))

    def test_makes_what_the_second_makes_of_the_first_ones_outs(self):
        told = 0
        for net, other in pairs_that_fit():
            if refusal(behind, net, other) is None:
                whole = behind(net, other)
                self.assertTrue(is_net(whole))
                self.assertEqual(made_by(whole), words_of(other, made_by(net)))
                self.assertEqual(whole[0], net[0])
                self.assertEqual(whole[1][:len(net[1])], net[1])
                self.assertEqual(len(whole[1]), len(net[1]) + len(other[1]))
                told += 1
        self.assertGreater(told, 80)

    def test_no_fit(self):
        self.assertEqual(refusal(behind, PAIR, PAIR), (NoFit, None))
        self.assertEqual(refusal(behind, (2, (), (0, 1)), ONE), (NoFit, None))
        self.assertEqual(refusal(behind, (2, (), (0, 1)), (3, (), (0,))), (NoFit, None))
        self.assertIsNone(refusal(behind, (2, (), (0, 1)), (2, (), (0,))))

    def test_no_fit_with_more_outs_than_givens_can_be(self):
        self.assertIsNone(refusal(behind, (1, (), (0,) * 12), (12, (), (11,))))
        self.assertEqual(refusal(behind, (1, (), (0,) * 13), (12, (), (11,))), (NoFit, None))

    def test_just_within_and_just_beyond_the_joinings(self):
        for one, other in ((66, 66), (131, 1), (1, 131), (132, 0), (0, 132)):
            net = long_net(3, one, 2)[:2] + ((0, 2),)
            self.assertEqual(len(behind(net, long_net(2, other, 1))[1]), 132)
            self.assertTrue(is_net(behind(net, long_net(2, other, 1))))
        for one, other in ((66, 67), (132, 1), (1, 132), (132, 132)):
            net = long_net(3, one, 2)[:2] + ((0, 2),)
            self.assertEqual(refusal(behind, net, long_net(2, other, 1)), (TooMany, None))

    def test_givens_and_outs_at_their_most(self):
        twelve = (12, (), tuple(range(12)))
        self.assertEqual(behind(twelve, (12, ((0, 11),), (12,) * 24)), (12, ((0, 11),), (12,) * 24))

    def test_givens_and_outs_beyond_their_most(self):
        self.assertEqual(refusal(behind, (13, (), (0,)), ONE), (TooMany, None))
        self.assertEqual(refusal(behind, ONE, (1, (), (0,) * 25)), (TooMany, None))
        # The outs of the first one are no outs of the whole, nor the givens of the second one givens.
        self.assertIsNone(refusal(behind, (1, (), (0,) * 25), (25, (), (24,))))

    def test_alike_outs_are_not_joined(self):
        net = (2, ((0, 1),), (2, 2, 0))
        self.assertEqual(refusal(behind, net, (3, ((0, 1),), (3,))), (Nought, 0))
        self.assertEqual(refusal(behind, net, (3, ((0, 2), (1, 3), (0, 1)), (5,))), (Nought, 2))
        self.assertEqual(behind(net, (3, ((0, 2), (1, 3)), (4,))), (2, ((0, 1), (0, 2), (2, 3)), (4,)))

    def test_unlike_outs_with_the_same_row_are_not_joined(self):
        net = (2, ((0, 1), (0, 1), (1, 2)), (2, 3, 0, 4))
        self.assertEqual(refusal(behind, net, (4, ((0, 1),), (4,))), (Nought, 0))
        self.assertEqual(refusal(behind, net, (4, ((0, 2), (2, 3)), (4,))), (Nought, 1))

    def test_the_first_such_joining_is_told(self):
        net = (2, (), (0, 0, 1))
        other = (3, ((0, 2), (1, 2), (3, 4), (0, 1)), (6,))
        self.assertEqual(refusal(behind, net, other), (Nought, 2))
        other = (3, ((0, 2), (0, 1), (1, 2), (3, 5)), (6,))
        self.assertEqual(refusal(behind, net, other), (Nought, 1))

    def test_joined_with_what_it_comes_to(self):
        # The second net's joining 1 is of out 0 and of joining 0, which makes out 0's row again.
        net = (3, ((0, 1), (1, 2)), (4, 3, 0, 2))
        self.assertEqual(rows_of(net), [1, 2, 4, 3, 6])
        other = (4, ((1, 2), (3, 4), (0, 5)), (6,))
        self.assertEqual(refusal(behind, net, other), (Nought, 2))

    def test_joining_131_of_the_second_net(self):
        other = long_net(2, 132, 1)
        self.assertEqual(refusal(behind, (1, (), (0, 0)), other), (Nought, 0))
        other = (3, long_net(3, 131, 1)[1] + ((0, 1),), (134,))
        self.assertTrue(is_net(other))
        self.assertEqual(refusal(behind, (2, (), (0, 0, 1)), other), (Nought, 131))

    def test_drawn_nets_are_refused_just_where_rows_would_be_alike(self):
        seen = 0
        for net, other in pairs_that_fit():
            rows = list(made_by(net))
            due = None
            for at, (a, b) in enumerate(other[1]):
                if rows[a] == rows[b] and due is None:
                    due = (Nought, at)
                rows.append(rows[a] ^ rows[b])
            self.assertEqual(refusal(behind, net, other), due)
            seen += due is not None
        self.assertGreater(seen, 50)

    def test_which_refusal_is_told_first(self):
        full = long_net(2, 132, 2)
        self.assertEqual(refusal(behind, full, (3, ((0, 1),), (3,))), (NoFit, None))
        self.assertEqual(refusal(behind, full, (2, ((0, 1),), (2,))), (TooMany, None))
        self.assertEqual(refusal(behind, (1, (), (0, 0)), (3, ((0, 1),), (3,))), (NoFit, None))
        self.assertEqual(refusal(behind, long_net(2, 131, 2), (2, ((0, 1),), (2,))), (Nought, 0))

    def test_refused_it_changes_nothing(self):
        net, other = (1, (), (0, 0)), PAIR
        for turn in range(2):
            self.assertEqual(refusal(behind, net, other), (Nought, 0))
        self.assertEqual((net, other), ((1, (), (0, 0)), (2, ((0, 1),), (2,))))


class Laned(unittest.TestCase):
    def test_told_ones(self):
        self.assertEqual(laned(PAIR, 2), (4, ((0, 2), (1, 3)), (4, 5)))
        self.assertEqual(laned(ONE, 3), (3, (), (0, 1, 2)))
        net = (2, ((0, 1), (0, 2)), (3, 0))
        self.assertEqual(laned(net, 3), (6, ((0, 3), (1, 4), (2, 5), (0, 6), (1, 7), (2, 8)), (9, 10, 11, 0, 1, 2)))

    def test_one_lane_is_the_net(self):
        for net in NETS:
            self.assertEqual(laned(net, 1), net)

    def test_each_lane_makes_its_own_rows(self):
        told = 0
        for net in NETS:
            for lanes in range(1, 7):
                if refusal(laned, net, lanes) is None:
                    whole = laned(net, lanes)
                    self.assertTrue(is_net(whole))
                    self.assertEqual(len(whole[1]), len(net[1]) * lanes)
                    rows = [sum(2 ** (given * lanes + lane) for given in range(net[0]) if row >> given & 1)
                            for row in rows_of(net) for lane in range(lanes)]
                    self.assertEqual(rows_of(whole), rows)
                    self.assertEqual(made_by(whole), [rows[out * lanes + lane] for out in net[2]
                                                      for lane in range(lanes)])
                    told += lanes > 1
        self.assertGreater(told, 300)

    def test_as_many_lanes_as_still_fit(self):
        for net, most in ((ONE, 12), (PAIR, 6), ((4, (), (0,)), 3), ((5, (), (0,)), 2), ((12, (), (0,)), 1),
                          (long_net(2, 22, 1), 6), (long_net(2, 27, 1), 4), (long_net(2, 66, 1), 2),
                          (long_net(2, 67, 1), 1), (long_net(2, 132, 1), 1), ((1, (), (0, 0)), 12),
                          ((1, (), (0, 0, 0)), 8), ((1, (), (0,) * 13), 1), ((1, (), (0,) * 24), 1)):
            self.assertTrue(is_net(laned(net, most)))
            self.assertEqual(refusal(laned, net, most + 1), (TooMany, None))

    def test_ever_so_many_lanes(self):
        for lanes in (13, 10 ** 9, 10 ** 60 - 1, 10 ** 9999):
            self.assertEqual(refusal(laned, ONE, lanes), (TooMany, None))

    def test_asked_again_the_same_is_told(self):
        for net in NETS[18:60]:
            if net[0] < 7 and len(net[2]) < 13:
                self.assertEqual(laned(net, 2), laned(net, 2))


class Kinds(unittest.TestCase):
    def test_too_many_and_no_fit_are_made_of_words(self):
        for handed in ((beside, (12, (), (0,)), ONE), (behind, PAIR, PAIR), (laned, ONE, 13)):
            with self.assertRaises(JoinError) as caught:
                handed[0](*handed[1:])
            self.assertEqual([type(part) for part in caught.exception.args], [str])


if __name__ == "__main__":
    unittest.main()
