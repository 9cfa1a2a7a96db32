"""Bettered nets [34], and what points 2 and 3 say of them."""

import itertools
import time
import unittest

from fewjoins.better import bettered
from fewjoins.cases import least
from fewjoins.errors import JoinError, TooMany
from fewjoins.nets import is_net, made_by, rows_of
from fewjoins.pairs import pairs_net
from fewjoins.plain import plain_net
from fewjoins.tidy import tidied
from samples import Numbers, long_net, some_net, some_wish


def slow_tidied(net):
    """Point 11, step by step: each thing with the row of one ahead is left out, then what no out leans on."""
    many, joins, outs = net
    rows = rows_of(net)
    first = [rows.index(row) for row in rows]
    needed = set()
    waiting = [first[out] for out in outs]
    while waiting:
        thing = waiting.pop()
        needed.add(thing)
        if thing >= many:
            waiting += [first[part] for part in joins[thing - many]]
    kept = list(range(many)) + [thing for thing in sorted(needed) if thing >= many]
    numbers = {thing: number for number, thing in enumerate(kept)}
    parts = [tuple(sorted(numbers[first[part]] for part in joins[thing - many])) for thing in kept[many:]]
    return (many, tuple(parts), tuple(numbers[first[out]] for out in outs))


def first_change(net):
    """The first joining and pair, in the told order, that leaves fewer joinings, None where there is none."""
    many, joins, outs = net
    rows = rows_of(net)
    for at in range(len(joins)):
        for pair in sorted(itertools.combinations(range(many + at), 2)):
            if rows[pair[0]] ^ rows[pair[1]] == rows[many + at]:
                changed = list(joins)
                changed[at] = pair
                told = slow_tidied((many, tuple(changed), outs))
                if len(told[1]) < len(joins):
                    return at, pair, told
    return None


def slow_bettered(net):
    """Point 34, word by word, with how many times something was taken."""
    told = slow_tidied(net)
    turns = 0
    change = first_change(told)
    while change is not None:
        told = change[2]
        turns += 1
        change = first_change(told)
    return told, turns


def drawn_nets(start, count):
    """Nets of 0 to 24 joinings, among them those made by told ways."""
    numbers = Numbers(start)
    nets = []
    for turn in range(count):
        nets.append(some_net(numbers, 2 + numbers.below(4), numbers.below(25), 1 + numbers.below(6)))
        wish = some_wish(numbers, 3 + numbers.below(3), 2 + numbers.below(6))
        nets += [net for net in (plain_net(wish), pairs_net(wish)) if len(net[1]) <= 24]
    return nets


NETS = drawn_nets(101, 150)


class Bettered(unittest.TestCase):
    def test_nothing_to_better(self):
        for net in ((1, (), (0,)), (2, ((0, 1),), (2,)), (3, ((0, 1), (2, 3)), (4, 3)), (12, (), (11, 0, 11))):
            self.assertEqual(bettered(net), net)

    def test_it_is_tidied(self):
        self.assertEqual(bettered((2, ((0, 1), (0, 1)), (3, 2))), (2, ((0, 1),), (2, 2)))
        self.assertEqual(bettered((3, ((0, 1), (1, 2)), (0,))), (3, (), (0,)))
        self.assertEqual(bettered((2, ((0, 1), (0, 2)), (3,))), (2, (), (1,)))

    def test_another_pair_saves_a_joining(self):
        # 7 is 3 and 4, or 1 and 6; with the latter nothing needs 3.
        net = (3, ((0, 1), (1, 2), (2, 3)), (4, 5))
        self.assertEqual(bettered(net), (3, ((1, 2), (0, 3)), (3, 4)))

    def test_the_first_of_several_pairs_is_taken(self):
        # 15 is made of 7 and 8; 1 and 14, 2 and 13, 4 and 11 would all leave 7 out, and the first one is taken.
        joins = ((2, 3), (1, 4), (0, 4), (0, 1), (3, 7), (2, 7), (3, 9))
        net = (4, joins, (5, 6, 8, 10))
        self.assertEqual(made_by(net), [14, 13, 11, 15])
        self.assertEqual(bettered(net), (4, ((2, 3), (1, 4), (0, 4), (0, 1), (3, 7), (0, 5)), (5, 6, 8, 9)))

    def test_the_first_thing_of_a_pair_goes_ahead(self):
        # 6 is made of 3 and 5; of 1 and 7, or of 2 and 4, it would leave 5 out, and 1 is the first thing.
        net = (3, ((0, 1), (2, 3), (0, 2), (3, 5)), (6, 4))
        self.assertEqual(bettered(net), (3, ((0, 1), (2, 3), (0, 4)), (5, 4)))

    def test_the_first_joining_goes_ahead(self):
        # 3 is made of 9 and 10, and 11 of 8 and 3. 3 comes first: made of 1 and 2 it leaves 9 and 10 out.
        net = (4, ((0, 3), (1, 3), (4, 5), (3, 6)), (7, 7, 1))
        self.assertEqual(bettered(net), (4, ((0, 1), (3, 4)), (5, 5, 1)))
        # 3 of 1 and 2 comes ahead of 15 of 4 and 11, with which a joining more would be left in the end.
        net = (4, ((1, 3), (0, 4), (3, 5), (2, 6), (3, 7)), (6, 8, 6))
        self.assertEqual(bettered(net), (4, ((0, 1), (2, 4), (3, 5)), (4, 6, 4)))

    def test_the_search_begins_anew(self):
        turns = [slow_bettered(net)[1] for net in NETS]
        self.assertGreater(len([turn for turn in turns if turn >= 2]), 5)
        for net in NETS:
            told, turn = slow_bettered(net)
            if turn >= 2:
                self.assertEqual(bettered(net), told)

    def test_drawn_nets_held_against_the_words(self):
        saved = 0
        for net in NETS:
            told, turns = slow_bettered(net)
            self.assertEqual(bettered(net), told, net)
            saved += len(told[1]) < len(tidied(net)[1])
        self.assertGreater(saved, 20)

    def test_it_makes_the_same_rows_by_no_more_joinings(self):
        for net in NETS:
            told = bettered(net)
            self.assertIs(is_net(told), True)
            self.assertEqual(made_by(told), made_by(net))
            self.assertLessEqual(len(told[1]), len(tidied(net)[1]))
            self.assertLessEqual(len(told[1]), len(net[1]))

    def test_bettered_again_it_is_the_same(self):
        for net in NETS:
            told = bettered(net)
            self.assertEqual(bettered(told), told)
            self.assertEqual(tidied(told), told)
            self.assertEqual(bettered(net), told)

    def test_no_fewer_joinings_than_the_least_net(self):
        for net in NETS:
            if net[0] <= 4:
                wish = (net[0], tuple(made_by(net)))
                self.assertGreaterEqual(len(bettered(net)[1]), len(least(wish, False)[0][1]))

    def test_kinds(self):
        many, joins, outs = bettered((3, ((0, 1), (1, 2), (2, 3)), (4, 5)))
        self.assertEqual([type(many), type(joins), type(outs), type(joins[0])], [int, tuple, tuple, tuple])

    def test_in_a_reasonable_time(self):
        numbers = Numbers(102)
        for turn in range(10):
            start = time.process_time()
            bettered(some_net(numbers, 12, 24, 24))
            bettered(some_net(numbers, 4, 24, 24))
            self.assertLess(time.process_time() - start, 5)


class Refused(unittest.TestCase):
    def assert_refused(self, net):
        with self.assertRaises(TooMany) as caught:
            bettered(net)
        self.assertIs(type(caught.exception), TooMany)
        self.assertIsInstance(caught.exception, JoinError)

    def test_24_and_25_joinings(self):
        numbers = Numbers(103)
        self.assertIs(is_net(bettered(long_net(12, 24, 1))), True)
        self.assertIs(is_net(bettered(some_net(numbers, 6, 24, 3))), True)
        self.assert_refused(long_net(12, 25, 1))
        self.assert_refused(some_net(numbers, 6, 25, 3))
        self.assert_refused(long_net(2, 132, 24))

    def test_joinings_that_would_be_tidied_away_count(self):
        self.assertEqual(bettered((2, ((0, 1),) * 24, (25,))), (2, ((0, 1),), (2,)))
        self.assert_refused((2, ((0, 1),) * 25, (26,)))
        self.assert_refused((2, ((0, 1),) * 25, (0,)))

    def test_what_was_refused_changes_nothing(self):
        net = long_net(3, 25, 2)
        before = (3, tuple(net[1]), tuple(net[2]))
        self.assert_refused(net)
        self.assertEqual(net, before)


if __name__ == "__main__":
    unittest.main()
