"""Nets [7 to 9], and what points 2 and 3 say of them."""

import copy
import unittest

from fewjoins.nets import height, is_clean, is_net, levels, made_by, rows_of, words_of
from fewjoins.tables import table_of
from samples import Numbers, nested, odd_things, some_nets

NETS = some_nets(7, 300)

# Givens 0 to 2; then 0+1, 0+1+2, and 2 by taking out.
NET = (3, ((0, 1), (2, 3), (3, 4)), (5, 4, 0))

# 132 joinings of two givens: 0+1, then 1 and 0+1 in turn.
LONG = (2, ((0, 1),) + tuple((0, thing) for thing in range(2, 133)), (133,))


def number(thing, low, high):
    return type(thing) is int and low <= thing <= high


def slow_is_net(thing):
    """Point 7 word by word, with rows as sets of givens."""
    if type(thing) is not tuple or len(thing) != 3:
        return False
    many, joins, outs = thing
    if not number(many, 1, 12) or type(joins) is not tuple or len(joins) > 132:
        return False
    rows = [{given} for given in range(many)]
    for join in joins:
        if type(join) is not tuple or len(join) != 2:
            return False
        if not all(number(part, 0, len(rows) - 1) for part in join) or join[0] >= join[1]:
            return False
        rows.append(rows[join[0]] ^ rows[join[1]])
        if not rows[-1]:
            return False
    if type(outs) is not tuple or not 1 <= len(outs) <= 24:
        return False
    return all(number(out, 0, len(rows) - 1) for out in outs)


def slow_rows(net):
    """The rows of all things, each as a set of givens."""
    rows = [{given} for given in range(net[0])]
    for a, b in net[1]:
        rows.append(rows[a] ^ rows[b])
    return rows


def as_row(givens):
    return sum(2 ** given for given in givens)


def slow_level(net, thing):
    if thing < net[0]:
        return 0
    return 1 + max(slow_level(net, part) for part in net[1][thing - net[0]])


def with_part(thing, place, part):
    return thing[:place] + (part,) + thing[place + 1:]


def other_nets(net, parts):
    """The net with each of its parts, on every level, put in place of by each of some others."""
    many, joins, outs = net
    for part in parts:
        for place in range(3):
            yield with_part(net, place, part)
        for at, join in enumerate(joins):
            yield (many, with_part(joins, at, part), outs)
            for side in range(2):
                yield (many, with_part(joins, at, with_part(join, side, part)), outs)
        for at in range(len(outs)):
            yield (many, joins, with_part(outs, at, part))


class IsNet(unittest.TestCase):
    def assert_net(self, *things):
        for thing in things:
            self.assertIs(is_net(thing), True, thing)

    def assert_no_net(self, *things):
        for thing in things:
            self.assertIs(is_net(thing), False, thing)

    def test_told_ones(self):
        self.assert_net(NET, (2, ((0, 1),), (2,)), (3, (), (0, 1, 2)))

    def test_one_and_twelve_givens(self):
        self.assert_net((1, (), (0,)), (12, (), (11,)), (12, ((0, 11),), (12,)))
        self.assert_no_net((0, (), (0,)), (0, (), ()), (13, (), (0,)), (-1, (), (0,)), (13, ((0, 1),), (13,)))

    def test_no_joining_and_132_joinings(self):
        self.assertEqual(len(LONG[1]), 132)
        self.assert_net((2, (), (1,)), LONG)
        self.assert_no_net((2, LONG[1] + ((0, 1),), (133,)), (2, LONG[1] + ((0, 1),), (0,)))

    def test_1_and_24_outs(self):
        self.assert_net((2, ((0, 1),), (2,)), (2, ((0, 1),), (2,) * 24), (2, ((0, 1),), (0, 1, 2) * 8))
        self.assert_no_net((2, ((0, 1),), ()), (2, ((0, 1),), (2,) * 25))

    def test_outs_are_things(self):
        self.assert_net((2, ((0, 1),), (0,)), (2, ((0, 1),), (2, 2, 0)))
        self.assert_no_net((2, ((0, 1),), (3,)), (2, ((0, 1),), (-1,)), (2, (), (2,)), (2, (), (0, 2)))

    def test_a_joining_is_of_things_ahead_of_it(self):
        self.assert_net((3, ((0, 1), (2, 3)), (4,)))
        self.assert_no_net((3, ((0, 3),), (3,)), (3, ((0, 4), (0, 1)), (3,)), (3, ((3, 4), (0, 1)), (3,)))
        self.assert_no_net((3, ((-1, 0),), (3,)), (3, ((-2, -1),), (3,)), (3, ((0, -1),), (3,)))

    def test_a_joining_of_a_thing_with_itself(self):
        self.assert_no_net((2, ((0, 0),), (2,)), (2, ((1, 1),), (0,)), (2, ((0, 1), (2, 2)), (2,)))

    def test_a_joining_turned_about(self):
        self.assert_no_net((2, ((1, 0),), (2,)), (3, ((0, 1), (3, 2)), (4,)))

    def test_a_joining_of_two_things_with_the_same_row(self):
        self.assert_no_net((2, ((0, 1), (0, 1), (2, 3)), (4,)))
        self.assert_no_net((2, ((0, 1), (1, 2), (0, 3)), (4,)))
        self.assert_no_net((3, ((0, 1), (1, 2), (2, 3), (0, 4), (5, 6)), (0,)))

    def test_alike_rows_that_are_not_joined(self):
        self.assert_net((2, ((0, 1), (0, 1)), (2, 3)), (2, ((0, 1), (1, 2)), (3,)))

    def test_a_joining_has_two_things(self):
        self.assert_no_net((3, ((),), (0,)), (3, ((0,),), (0,)), (3, ((0, 1, 2),), (0,)), (3, (0, 1), (0,)))

    def test_three_parts(self):
        self.assert_no_net((), (2,), (2, ((0, 1),)), (2, ((0, 1),), (2,), ()), (2, ((0, 1),), (2,), (2,)))

    def test_lists_where_tuples_should_stand(self):
        self.assert_no_net([2, ((0, 1),), (2,)], (2, [(0, 1)], (2,)), (2, ([0, 1],), (2,)), (2, ((0, 1),), [2]))
        self.assert_no_net((2, [], (0,)), (2, (), [0]), (2, (), [[0]]))

    def test_truths_where_whole_numbers_should_stand(self):
        self.assert_no_net((True, (), (0,)), (1, (), (False,)), (2, ((False, 1),), (2,)), (2, ((0, True),), (2,)))
        self.assert_no_net((2, ((0, 1),), (2, True)), (False, (), (0,)), (2, True, (0,)), (2, (), True))

    def test_texts_and_none(self):
        self.assert_no_net(("2", ((0, 1),), (2,)), (2, "", (0,)), (2, "01", (0,)), (2, ("01",), (2,)))
        self.assert_no_net((2, ((0, 1),), "2"), (2, ((0, 1),), ("2",)), (None, ((0, 1),), (2,)), (2, None, (0,)))
        self.assert_no_net((2, (None,), (0,)), (2, ((0, None),), (2,)), (2, ((0, 1),), None), (2, ((0, 1),), (None,)))

    def test_numbers_of_sixty_figures(self):
        great = 10 ** 60 - 1
        self.assert_no_net((great, (), (0,)), (2, ((0, great),), (2,)), (2, ((0, 1),), (great,)))
        self.assert_no_net((-great, (), (0,)), (2, ((-great, 1),), (2,)), (2, ((0, 1),), (-great,)))
        self.assert_no_net((great, ((great - 1, great),), (great,)))

    def test_anything(self):
        self.assert_no_net(*odd_things())

    def test_anything_within(self):
        for thing in odd_things():
            if thing != ():
                self.assert_no_net((2, thing, (0,)))
            self.assert_no_net((thing, (), (0,)), (2, (), thing), (2, (thing,), (0,)), (2, (), (thing,)))
            self.assert_no_net((2, ((thing, 1),), (0,)), (2, ((0, thing),), (0,)), (2, ((0, 1), thing), (0,)))

    def test_a_net_within_others_is_none(self):
        for depth in (1, 2, 26):
            for kind in (tuple, list):
                self.assert_no_net(nested(NET, depth, kind))

    def test_sampled_nets(self):
        for net in NETS:
            self.assertTrue(slow_is_net(net))
            self.assert_net(net)

    def test_sampled_nets_with_other_parts(self):
        parts = [0, 1, 2, 3, 5, 12, 13, 10 ** 59, -1, True, None, "0", (), (0,), (0, 1), [0, 1], (1, 2), ((0, 1),)]
        for net in NETS[:2] + NETS[18:78] + [NET]:
            for other in other_nets(net, parts):
                self.assertIs(is_net(other), slow_is_net(other), other)

    def test_what_is_handed_in_is_not_changed(self):
        for thing in ([2, [[0, 1]], [2]], (2, [(0, 1)], (2,)), (2, ((0, 1),), [2]), (2, ([0, 1],), (2,))):
            before = copy.deepcopy(thing)
            is_net(thing)
            self.assertEqual(thing, before)

    def test_asked_again_the_same_is_told(self):
        for thing in odd_things() + NETS:
            self.assertIs(is_net(thing), is_net(thing))


class ToldOfNets(unittest.TestCase):
    def test_told_ones(self):
        self.assertEqual(rows_of(NET), [1, 2, 4, 3, 7, 4])
        self.assertEqual(made_by(NET), [4, 7, 1])
        self.assertEqual(levels(NET), [0, 0, 0, 1, 2, 3])
        self.assertEqual(height(NET), 3)
        self.assertIs(is_clean(NET), False)

    def test_one_given(self):
        net = (1, (), (0, 0))
        self.assertEqual((rows_of(net), made_by(net), levels(net)), ([1], [1, 1], [0]))
        self.assertEqual((height(net), is_clean(net)), (0, True))

    def test_twelve_givens(self):
        net = (12, ((10, 11), (0, 12)), (13, 11))
        self.assertEqual(rows_of(net), [2 ** given for given in range(12)] + [3072, 3073])
        self.assertEqual(made_by(net), [3073, 2048])
        self.assertEqual(levels(net), [0] * 12 + [1, 2])
        self.assertIs(is_clean(net), True)

    def test_132_joinings(self):
        self.assertEqual(rows_of(LONG), [1, 2] + [3, 2] * 66)
        self.assertEqual(made_by(LONG), [2])
        self.assertEqual(levels(LONG), [0, 0] + list(range(1, 133)))
        self.assertEqual(height(LONG), 132)
        self.assertIs(is_clean(LONG), False)

    def test_the_height_is_that_of_the_outs(self):
        joins = ((0, 1), (2, 3), (3, 4))
        for outs, high in (((0,), 0), ((3,), 1), ((4,), 2), ((5,), 3), ((5, 0), 3), ((0, 4, 3), 2)):
            self.assertEqual(height((3, joins, outs)), high)

    def test_the_level_is_one_more_than_the_greater_one(self):
        net = (4, ((0, 1), (2, 4), (3, 4), (5, 6), (0, 7)), (8,))
        self.assertEqual(levels(net), [0, 0, 0, 0, 1, 2, 2, 3, 4])

    def test_clean_looks_at_each_joining_on_which_an_out_leans_or_not(self):
        self.assertIs(is_clean((3, ((0, 1), (2, 3)), (4,))), True)
        self.assertIs(is_clean((3, ((0, 1), (1, 2)), (3, 4))), True)
        self.assertIs(is_clean((3, ((0, 1), (0, 3)), (2,))), False)
        self.assertIs(is_clean((3, ((0, 1), (1, 2), (3, 4)), (5,))), False)
        self.assertIs(is_clean((4, ((0, 1), (1, 2), (3, 4), (2, 3)), (6,))), True)

    def test_sampled_nets(self):
        for net in NETS:
            rows = slow_rows(net)
            self.assertEqual(rows_of(net), [as_row(row) for row in rows])
            self.assertEqual(made_by(net), [as_row(rows[out]) for out in net[2]])
            self.assertIs(is_clean(net), all(rows[a].isdisjoint(rows[b]) for a, b in net[1]))

    def test_levels_of_sampled_nets(self):
        for net in NETS:
            if len(net[1]) < 20:
                told = [slow_level(net, thing) for thing in range(net[0] + len(net[1]))]
                self.assertEqual(levels(net), told)
                self.assertEqual(height(net), max(told[out] for out in net[2]))

    def test_kinds(self):
        for told in (rows_of(NET), made_by(NET), levels(NET)):
            self.assertIs(type(told), list)
            self.assertEqual({type(number) for number in told}, {int})
        self.assertIs(type(height(NET)), int)

    def test_a_changed_answer_changes_no_later_one(self):
        for told in (rows_of, made_by, levels):
            for net in (NET, LONG, (1, (), (0,))):
                first = told(net)
                kept = list(first)
                second = told(net)
                first.append(9)
                first[0] = 99
                self.assertEqual(second, kept)
                self.assertEqual(told(net), kept)

    def test_more_than_the_bounds_is_not_refused(self):
        net = (13, tuple((given, given + 1) for given in range(12)) * 12, (12,) * 25)
        self.assertEqual(made_by(net), [4096] * 25)
        self.assertEqual(len(rows_of(net)), 13 + 144)
        self.assertEqual((height(net), is_clean(net)), (0, True))


class Words(unittest.TestCase):
    def test_told_ones(self):
        self.assertEqual(words_of(NET, [0b1100, 0b1010, 0b0001]), [0b0001, 0b0111, 0b1100])

    def test_one_given(self):
        for word in (0, 1, 2 ** 4096 - 1):
            self.assertEqual(words_of((1, (), (0, 0)), [word]), [word, word])

    def test_the_greatest_words(self):
        great = 2 ** 4096 - 1
        self.assertEqual(words_of((2, ((0, 1),), (2, 0, 1)), [great, 0]), [great, great, 0])
        self.assertEqual(words_of((2, ((0, 1),), (2,)), [great, great]), [0])
        self.assertEqual(words_of((2, ((0, 1),), (2,)), [great, 2 ** 4095]), [2 ** 4095 - 1])
        self.assertEqual(words_of(LONG, [great, 5]), [5])

    def test_bit_by_bit_what_the_rows_tell(self):
        numbers = Numbers(3)
        for net in NETS:
            words = [numbers.below(2 ** 20) for given in range(net[0])]
            rows = slow_rows(net)
            told = []
            for out in net[2]:
                told.append(sum((sum(words[given] >> bit & 1 for given in rows[out]) % 2) << bit for bit in range(20)))
            self.assertEqual(words_of(net, words), told)

    def test_the_givens_tables_make_the_rows_tables(self):
        for net in NETS:
            many = net[0]
            words = [table_of(many, 2 ** given) for given in range(many)]
            self.assertEqual(words_of(net, words), [table_of(many, row) for row in made_by(net)])

    def test_twelve_givens_and_words_of_4096_bits(self):
        net = (12, ((0, 11), (5, 12)), (13, 12, 11))
        words = [table_of(12, 2 ** given) for given in range(12)]
        self.assertEqual(words_of(net, words), [table_of(12, 2081), table_of(12, 2049), table_of(12, 2048)])

    def test_the_handed_list_stays_as_it_was(self):
        words = [12, 10, 1]
        words_of(NET, words)
        self.assertEqual(words, [12, 10, 1])

    def test_a_changed_answer_changes_no_later_one(self):
        for net, words in ((NET, [12, 10, 1]), ((2, (), (0, 1)), [3, 4])):
            first = words_of(net, words)
            kept, handed = list(first), list(words)
            first[0] = 99
            first.append(1)
            self.assertEqual(words, handed)
            self.assertEqual(words_of(net, words), kept)

    def test_what_is_done_to_the_list_afterwards_changes_nothing(self):
        words = [12, 10, 1]
        told = words_of(NET, words)
        words[0] = 0
        words.append(3)
        self.assertEqual(told, [1, 7, 12])
        self.assertEqual(words_of(NET, [12, 10, 1]), [1, 7, 12])

    def test_is_a_list_of_whole_numbers(self):
        told = words_of(NET, [1, 1, 0])
        self.assertIs(type(told), list)
        self.assertEqual({type(word) for word in told}, {int})


if __name__ == "__main__":
    unittest.main()
