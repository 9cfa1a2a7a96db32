"""Tidied nets [11], and what points 2 and 3 say of them."""

import unittest

from fewjoins.judged import first_fault
from fewjoins.nets import is_net, made_by, rows_of
from fewjoins.tidy import tidied
from samples import some_nets

NETS = some_nets(23, 500)


def leans(outs, joins):
    """All things on which the outs lean; joins tells the two things of each joining."""
    leant = set(outs)
    waiting = list(outs)
    while waiting:
        for part in joins.get(waiting.pop(), ()):
            if part not in leant:
                leant.add(part)
                waiting.append(part)
    return leant


def slow_tidied(net):
    """Point 11 word by word: things keep their old numbers until the end."""
    many, joins, outs = net
    rows = rows_of(net)
    firsts = [rows.index(row) for row in rows]
    held = {}
    for at, join in enumerate(joins):
        if firsts[many + at] == many + at:
            held[many + at] = tuple(firsts[part] for part in join)
    outs = [firsts[out] for out in outs]
    leant = leans(outs, held)
    order = list(range(many)) + [thing for thing in sorted(held) if thing in leant]
    kept = tuple(tuple(sorted(order.index(part) for part in held[thing])) for thing in order[many:])
    return (many, kept, tuple(order.index(out) for out in outs))


class Tidied(unittest.TestCase):
    def test_a_tidy_net_stays(self):
        for net in ((1, (), (0,)), (3, ((0, 1), (2, 3)), (4, 3)), (12, (), (11, 0)), (2, ((0, 1),), (2, 2))):
            self.assertEqual(tidied(net), net)

    def test_alike_rows_are_left_out(self):
        net = (3, ((0, 1), (0, 1), (2, 3), (2, 4)), (5, 6, 4))
        self.assertEqual(tidied(net), (3, ((0, 1), (2, 3)), (4, 4, 3)))

    def test_the_first_thing_stands_in_its_place_in_joinings_too(self):
        net = (3, ((0, 1), (0, 1), (2, 4)), (5,))
        self.assertEqual(tidied(net), (3, ((0, 1), (2, 3)), (4,)))

    def test_a_given_stands_in_the_place_of_a_joining_with_its_row(self):
        net = (3, ((0, 1), (1, 3), (2, 4)), (5, 4))
        self.assertEqual(tidied(net), (3, ((0, 2),), (3, 0)))

    def test_the_lesser_number_stands_first(self):
        # Thing 6 has given 0's row: the last joining, of 5 and 6, is then of 0 and 5.
        net = (4, ((0, 1), (2, 3), (1, 4), (5, 6)), (7,))
        self.assertEqual(tidied(net), (4, ((2, 3), (0, 4)), (5,)))
        # Thing 5 has thing 3's row: the last joining, of 4 and 5, is then of 3 and 4.
        net = (3, ((0, 1), (1, 2), (0, 1), (4, 5)), (6,))
        self.assertEqual(tidied(net), (3, ((0, 1), (1, 2), (3, 4)), (5,)))

    def test_joinings_on_which_no_out_leans_are_left_out(self):
        self.assertEqual(tidied((3, ((0, 1), (1, 2), (0, 2)), (4,))), (3, ((1, 2),), (3,)))
        self.assertEqual(tidied((3, ((0, 1), (2, 3)), (3,))), (3, ((0, 1),), (3,)))
        self.assertEqual(tidied((3, ((0, 1), (2, 3)), (0,))), (3, (), (0,)))

    def test_a_chain_on_which_no_out_leans_is_left_out_whole(self):
        net = (4, ((0, 1), (2, 3), (2, 4), (3, 6)), (5,))
        self.assertEqual(tidied(net), (4, ((2, 3),), (4,)))

    def test_what_is_leant_on_through_others_is_kept(self):
        net = (4, ((0, 1), (2, 4), (3, 5)), (6,))
        self.assertEqual(tidied(net), net)

    def test_leaning_is_looked_at_behind_the_leaving_out(self):
        # Only thing 5, which is left out, leans on thing 4.
        net = (3, ((0, 1), (1, 2), (2, 4)), (5, 3))
        self.assertEqual(tidied(net), (3, ((0, 1),), (1, 3)))

    def test_the_order_is_kept(self):
        net = (4, ((2, 3), (0, 1), (0, 2), (1, 3)), (7, 5, 4))
        self.assertEqual(tidied(net), (4, ((2, 3), (0, 1), (1, 3)), (6, 5, 4)))

    def test_the_outs_keep_their_order_and_number(self):
        net = (2, ((0, 1), (0, 1)), (3, 0, 2, 3, 1))
        self.assertEqual(tidied(net), (2, ((0, 1),), (2, 0, 2, 2, 1)))

    def test_132_joinings_and_24_outs(self):
        joins = ((0, 1),) + tuple((0, thing) for thing in range(2, 133))
        self.assertEqual(tidied((2, joins, (132, 133) * 12)), (2, ((0, 1),), (2, 1) * 12))

    def test_132_joinings_none_of_which_is_left_out(self):
        # A Gray code: step k changes the given whose number is k's last bit that is 1.
        joins = tuple(((step & -step).bit_length() - 1, 10 + step) for step in range(1, 133))
        net = (12, joins, (143,))
        self.assertTrue(is_net(net))
        self.assertEqual(tidied(net), net)

    def test_more_than_132_joinings_are_not_refused(self):
        self.assertEqual(tidied((2, ((0, 1),) * 140, (141,) * 25)), (2, ((0, 1),), (2,) * 25))

    def test_sampled_nets(self):
        for net in NETS:
            self.assertEqual(tidied(net), slow_tidied(net), net)

    def test_sampled_nets_make_the_same_by_no_more_joinings(self):
        for net in NETS:
            told = tidied(net)
            self.assertTrue(is_net(told), net)
            self.assertEqual(made_by(told), made_by(net))
            self.assertIsNone(first_fault(told, (net[0], tuple(made_by(net)))))
            self.assertLessEqual(len(told[1]), len(net[1]))

    def test_all_things_have_unlike_rows_and_each_joining_is_leant_on(self):
        for net in NETS:
            many, joins, outs = tidied(net)
            rows = rows_of((many, joins, outs))
            self.assertEqual(len(set(rows)), len(rows))
            leant = leans(outs, {many + at: join for at, join in enumerate(joins)})
            self.assertLessEqual(set(range(many, many + len(joins))), leant)

    def test_the_rows_of_the_joinings_keep_their_order(self):
        for net in NETS:
            kept = rows_of(tidied(net))
            ahead = rows_of(net)
            self.assertEqual(sorted(kept, key=ahead.index), kept)

    def test_tidied_again_it_is_the_same(self):
        for net in NETS:
            told = tidied(net)
            self.assertEqual(tidied(told), told)

    def test_asked_again_the_same_is_told(self):
        for net in NETS[:40]:
            self.assertEqual(tidied(net), tidied(net))


if __name__ == "__main__":
    unittest.main()
