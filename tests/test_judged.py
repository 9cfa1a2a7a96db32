"""Wishes and the looker [10], and what points 2 and 3 say of them."""

import copy
import unittest

from fewjoins.errors import JoinError, NoFit
from fewjoins.judged import first_fault, is_wish
from fewjoins.nets import made_by
from fewjoins.rows import tells
from samples import Numbers, nested, odd_things, some_nets, some_rows

NETS = some_nets(11, 200)


def slow_is_wish(thing):
    """Point 10's wish, word by word."""
    if type(thing) is not tuple or len(thing) != 2:
        return False
    many, rows = thing
    if type(many) is not int or many not in range(1, 13):
        return False
    if type(rows) is not tuple or not 1 <= len(rows) <= 24:
        return False
    return all(type(row) is int and 0 < row < 2 ** many for row in rows)


def slow_fault(net, wish):
    """The first fault, setting by setting."""
    many, rows = wish
    made = made_by(net)
    for setting in range(2 ** many):
        for place, row in enumerate(rows):
            if tells(made[place], setting) != tells(row, setting):
                return (setting, place)
    return None


def some_wishes(net, numbers):
    """The wish that a net makes, and others, some of them nearly so."""
    many, made = net[0], made_by(net)
    yield (many, tuple(made))
    for turn in range(6):
        rows = list(made)
        for change in range(1 + numbers.below(3)):
            rows[numbers.below(len(rows))] = 1 + numbers.below(2 ** many - 1)
        yield (many, tuple(rows))
    yield (many, tuple(1 + row % (2 ** many - 1) for row in some_rows(numbers, many, len(made))))


class IsWish(unittest.TestCase):
    def assert_wish(self, *things):
        for thing in things:
            self.assertIs(is_wish(thing), True, thing)

    def assert_no_wish(self, *things):
        for thing in things:
            self.assertIs(is_wish(thing), False, thing)

    def test_told_ones(self):
        self.assert_wish((2, (3,)), (3, (7, 1, 6)), (3, (5, 5)))

    def test_one_and_twelve_givens(self):
        self.assert_wish((1, (1,)), (12, (4095,)), (12, (2048, 1)))
        self.assert_no_wish((0, (1,)), (0, (0,)), (0, ()), (13, (1,)), (13, (4096,)), (-1, (1,)))

    def test_1_and_24_rows(self):
        self.assert_wish((1, (1,)), (1, (1,) * 24), (12, tuple(range(1, 25))))
        self.assert_no_wish((1, ()), (1, (1,) * 25), (12, tuple(range(1, 26))))

    def test_row_0(self):
        self.assert_no_wish((3, (0,)), (3, (1, 0)), (12, (0, 1)), (1, (1, 0, 1)))

    def test_a_row_of_a_given_too_many(self):
        for many in range(1, 13):
            self.assert_wish((many, (2 ** many - 1,)), (many, (2 ** (many - 1),)))
            self.assert_no_wish((many, (2 ** many,)), (many, (1, 2 ** many + 1)), (many, (2 ** (many + 1) - 1,)))

    def test_a_row_below_0(self):
        self.assert_no_wish((3, (-1,)), (3, (1, -2)), (3, (-8,)))

    def test_two_parts(self):
        self.assert_no_wish((), (3,), (3, (1,), (1,)), ((1,),), (3, (1,), ()), ((1,), 3))

    def test_lists_where_tuples_should_stand(self):
        self.assert_no_wish([3, (1,)], (3, [1]), [3, [1]], (3, ([1],)), (3, [(1,)]))

    def test_truths_where_whole_numbers_should_stand(self):
        self.assert_no_wish((True, (1,)), (1, (True,)), (3, (1, True)), (False, (1,)), (3, True), (3, (False,)))

    def test_texts_and_none(self):
        self.assert_no_wish(("3", (1,)), (3, "1"), (3, ("1",)), (3, (1, "")), (None, (1,)), (3, None), (3, (None,)))

    def test_numbers_of_sixty_figures(self):
        great = 10 ** 60 - 1
        self.assert_no_wish((great, (1,)), (-great, (1,)), (12, (great,)), (12, (-great,)), (great, (great,)))

    def test_anything(self):
        self.assert_no_wish(*odd_things())

    def test_anything_within(self):
        for thing in odd_things():
            self.assert_no_wish((thing, (1,)), (3, thing), (3, (thing,)), (3, (1, thing)))

    def test_a_wish_within_others_is_none(self):
        for depth in (1, 2, 27):
            for kind in (tuple, list):
                self.assert_no_wish(nested((3, (1, 2)), depth, kind))

    def test_each_small_wish(self):
        for many in range(-1, 15):
            for one in range(-2, 18):
                for rows in ((one,), (1, one), (one, one, 1)):
                    self.assertIs(is_wish((many, rows)), slow_is_wish((many, rows)), (many, rows))

    def test_what_is_handed_in_is_not_changed(self):
        for thing in ([3, [1, 2]], (3, [1, 2]), (3, ([1], 2))):
            before = copy.deepcopy(thing)
            is_wish(thing)
            self.assertEqual(thing, before)

    def test_asked_again_the_same_is_told(self):
        for thing in odd_things() + [(3, (1,)), (3, (0,))]:
            self.assertIs(is_wish(thing), is_wish(thing))


class FirstFault(unittest.TestCase):
    def test_none_where_the_net_makes_the_wish(self):
        self.assertIsNone(first_fault((1, (), (0,)), (1, (1,))))
        self.assertIsNone(first_fault((2, ((0, 1),), (2, 0, 2)), (2, (3, 1, 3))))
        self.assertIsNone(first_fault((12, (), tuple(range(12)) * 2), (12, tuple(2 ** k for k in range(12)) * 2)))

    def test_told_ones(self):
        net = (3, ((0, 1), (2, 3)), (4, 3))
        self.assertEqual(first_fault(net, (3, (6, 3))), (1, 0))
        self.assertEqual(first_fault(net, (3, (7, 1))), (2, 1))
        self.assertEqual(first_fault(net, (3, (3, 7))), (4, 0))

    def test_the_least_setting_goes_ahead_of_the_least_place(self):
        net = (3, (), (0, 1, 2))
        self.assertEqual(first_fault(net, (3, (5, 3, 4))), (1, 1))
        self.assertEqual(first_fault(net, (3, (1, 6, 6))), (2, 2))

    def test_the_least_place_of_several_at_one_setting(self):
        net = (3, (), (0, 0, 0))
        self.assertEqual(first_fault(net, (3, (1, 3, 3))), (2, 1))
        self.assertEqual(first_fault(net, (3, (5, 7, 3))), (2, 1))

    def test_the_last_given_and_the_last_place(self):
        net = (12, (), (0,) * 24)
        self.assertEqual(first_fault(net, (12, (1,) * 23 + (2049,))), (2048, 23))

    def test_rows_in_another_order_are_not_made(self):
        self.assertEqual(first_fault((2, (), (0, 1)), (2, (2, 1))), (1, 0))

    def test_every_net_and_wish_of_two_givens(self):
        outs = [(a, b) for a in range(3) for b in range(3)]
        rows = [(a, b) for a in range(1, 4) for b in range(1, 4)]
        for out in outs:
            for row in rows:
                net, wish = (2, ((0, 1),), out), (2, row)
                self.assertEqual(first_fault(net, wish), slow_fault(net, wish))

    def test_sampled_nets_held_against_all_settings(self):
        numbers = Numbers(5)
        seen = {True: 0, False: 0}
        for net in NETS:
            for wish in some_wishes(net, numbers):
                told = first_fault(net, wish)
                seen[told is None] += 1
                self.assertEqual(told is None, list(wish[1]) == made_by(net))
                self.assertEqual(told, slow_fault(net, wish))
        self.assertGreater(min(seen.values()), 100)

    def test_is_a_tuple_of_whole_numbers(self):
        told = first_fault((2, (), (0,)), (2, (2,)))
        self.assertIs(type(told), tuple)
        self.assertEqual([type(number) for number in told], [int, int])

    def test_asked_again_the_same_is_told(self):
        net, wish = (2, ((0, 1),), (2, 1)), (2, (3, 1))
        self.assertEqual(first_fault(net, wish), first_fault(net, wish))


class Refused(unittest.TestCase):
    def assert_refused(self, net, wish):
        with self.assertRaises(NoFit) as caught:
            first_fault(net, wish)
        self.assertIs(type(caught.exception), NoFit)
        self.assertIsInstance(caught.exception, JoinError)

    def test_not_as_many_givens(self):
        self.assert_refused((2, (), (0,)), (1, (1,)))
        self.assert_refused((2, (), (0,)), (3, (1,)))
        self.assert_refused((11, (), (0,)), (12, (1,)))

    def test_not_as_many_rows_as_outs(self):
        self.assert_refused((2, (), (0,)), (2, (1, 1)))
        self.assert_refused((2, (), (0, 0)), (2, (1,)))
        self.assert_refused((2, (), (0,) * 24), (2, (1,) * 23))

    def test_neither_as_many(self):
        self.assert_refused((2, (), (0,)), (3, (1, 1)))

    def test_refused_also_where_there_would_be_a_fault(self):
        self.assert_refused((2, (), (0,)), (2, (2, 1)))
        self.assert_refused((2, (), (0,)), (3, (2,)))


if __name__ == "__main__":
    unittest.main()
