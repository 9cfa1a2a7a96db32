"""Counts that are tried and fewest joinings [32, 33], and what points 2 and 3 say of them."""

import itertools
import time
import unittest

from fewjoins.bounds import bound
from fewjoins.caselook import shown
from fewjoins.cases import least, tried
from fewjoins.errors import Bare, JoinError, TooMany
from fewjoins.judged import first_fault
from fewjoins.likeness import likeness_net
from fewjoins.nets import is_clean, is_net
from fewjoins.pairs import pairs_net
from fewjoins.turning import turned_net, turned_wish
from samples import Numbers, some_wish

GREAT = 10 ** 60 - 1


def joined_rows(known, clean):
    """All rows that two of these rows joined are."""
    return {one ^ other for one, other in itertools.combinations(known, 2) if not (clean and one & other)}


class Fewest:
    """The fewest joinings of all wishes of so many givens, by all sets of rows that some net has."""

    def __init__(self, many, clean):
        self.givens = frozenset(2 ** given for given in range(many))
        self.sets = {self.givens: 0}
        newest = [self.givens]
        while newest:
            following = {known | {row} for known in newest for row in joined_rows(known, clean) - known}
            newest = [known for known in following if known not in self.sets]
            for known in newest:
                self.sets[known] = len(known) - many
        self.told = {}

    def of(self, wish):
        wished = frozenset(wish[1]) - self.givens
        if wished not in self.told:
            self.told[wished] = min(joins for known, joins in self.sets.items() if wished <= known)
        return self.told[wished]


FEWEST = {(many, clean): Fewest(many, clean) for many in range(1, 5) for clean in (False, True)}


def papers_in(paper):
    """How many papers there are in one, it itself counted."""
    if paper[0] == "made":
        return 1 + papers_in(paper[2])
    if paper[0] == "next":
        return 1 + sum(papers_in(inner) for inner in paper[1])
    return 1


def row_sets(many):
    """Wishes of so many givens of all sets of rows, each rising."""
    rows = range(1, 2 ** many)
    return [(many, told) for size in rows for told in itertools.combinations(rows, size)]


def row_lists(many, length):
    """Wishes of so many givens of all lists of so many rows."""
    return [(many, rows) for rows in itertools.product(range(1, 2 ** many), repeat=length)]


def heavy_sets(many, most):
    """Wishes of so many givens of all sets of 1 to so many rows of weight 2 or more."""
    rows = [row for row in range(1, 2 ** many) if row & (row - 1)]
    return [(many, told) for size in range(1, most + 1) for told in itertools.combinations(rows, size)]


def long_wishes(numbers, many):
    """Drawn wishes of 1 to 24 rows."""
    return [some_wish(numbers, many, length) for length in range(1, 25)]


class Told(unittest.TestCase):
    def assert_net(self, wish, clean, net, joins):
        """It is a net of at most so many joinings that makes the wish."""
        self.assertIs(is_net(net), True, net)
        self.assertIsNone(first_fault(net, wish))
        self.assertLessEqual(len(net[1]), joins)
        if clean:
            self.assertIs(is_clean(net), True)

    def assert_paper(self, wish, clean, count, paper):
        self.assertIs(shown(wish, clean, count, paper), True, (wish, clean, count, paper))
        self.assertLessEqual(papers_in(paper), 3000)

    def assert_tried(self, wish, clean, count):
        """What is told is right by itself; told is whether there is a net."""
        told = tried(wish, clean, count)
        self.assertEqual([type(told), len(told), type(told[0]), type(told[1])], [tuple, 2, bool, tuple])
        found, answer = told
        if found:
            self.assert_net(wish, clean, answer, count)
        else:
            self.assert_paper(wish, clean, count, answer)
        return found

    def assert_least(self, wish, clean):
        """What is told is right by the search of all sets of rows."""
        told = least(wish, clean)
        self.assertEqual([type(told), len(told)], [tuple, 2])
        net, paper = told
        fewest = FEWEST[(wish[0], clean)].of(wish)
        self.assert_net(wish, clean, net, fewest)
        self.assertEqual(len(net[1]), fewest)
        if fewest == 0:
            self.assertIsNone(paper)
        else:
            self.assert_paper(wish, clean, fewest - 1, paper)
            for count in range(fewest, 12):
                self.assertIs(shown(wish, clean, count, paper), False)
        return fewest


class Tried(Told):
    def assert_counts(self, wishes, counts):
        """For each wish, kind and count: a net just where the search of all sets of rows has one."""
        for wish in wishes:
            for clean in (False, True):
                fewest = FEWEST[(wish[0], clean)].of(wish)
                for count in counts:
                    self.assertIs(self.assert_tried(wish, clean, count), count >= fewest, (wish, clean, count))

    def test_by_hand(self):
        self.assertEqual(tried((2, (3,)), False, 1), (True, (2, ((0, 1),), (2,))))
        self.assertEqual(tried((2, (3, 1, 3)), True, 11), (True, (2, ((0, 1),), (2, 0, 2))))
        self.assertEqual(tried((1, (1, 1)), False, 0), (True, (1, (), (0, 0))))
        self.assertIs(tried((2, (3,)), False, 0)[0], False)
        self.assertIs(tried((4, (15,)), False, 2)[0], False)
        self.assertIs(tried((4, (15,)), False, 3)[0], True)
        self.assertIs(tried((4, (7, 11, 13, 14)), False, 5)[0], False)
        self.assertIs(tried((4, (7, 11, 13, 14)), False, 6)[0], True)

    def test_taking_out_where_it_saves_a_joining(self):
        wish = (4, (3, 7, 15, 14))
        self.assertIs(tried(wish, False, 4)[0], True)
        self.assertIs(tried(wish, True, 4)[0], False)
        self.assertIs(tried(wish, True, 5)[0], True)

    def test_all_sets_of_rows_of_up_to_three_givens(self):
        self.assert_counts(row_sets(1) + row_sets(2) + row_sets(3), range(12))

    def test_all_short_lists_of_rows_of_up_to_three_givens(self):
        for many in (1, 2, 3):
            for length in (1, 2):
                self.assert_counts(row_lists(many, length), range(7))

    def test_all_sets_of_heavy_rows_of_four_givens(self):
        self.assert_counts(heavy_sets(4, 11), range(12))

    def test_drawn_wishes_of_four_givens_and_1_to_24_rows(self):
        numbers = Numbers(81)
        for turn in range(3):
            self.assert_counts(long_wishes(numbers, 4), range(12))

    def test_all_rows_of_four_givens(self):
        self.assert_counts([(4, tuple(range(1, 16))), (4, tuple(range(15, 0, -1)) + tuple(range(1, 10)))], range(12))

    def test_five_givens(self):
        for wish in heavy_sets(5, 2) + long_wishes(Numbers(82), 5):
            for clean in (False, True):
                found = [self.assert_tried(wish, clean, count) for count in range(4)]
                self.assertEqual(found, sorted(found))

    def test_six_givens(self):
        for wish in heavy_sets(6, 2)[::3] + long_wishes(Numbers(83), 6):
            for clean in (False, True):
                found = [self.assert_tried(wish, clean, count) for count in range(4)]
                self.assertEqual(found, sorted(found))

    def test_three_rows_of_five_and_six_givens(self):
        numbers = Numbers(84)
        for many in (5, 6):
            wishes = heavy_sets(many, 3)
            for turn in range(300):
                for clean in (False, True):
                    self.assert_tried(wishes[numbers.below(len(wishes))], clean, 3)

    def test_nets_of_five_and_six_givens(self):
        self.assertEqual([tried((6, (48,)), True, count)[0] for count in range(4)], [False, True, True, True])
        self.assertEqual([tried((6, (60,)), False, count)[0] for count in range(4)], [False, False, False, True])
        self.assertEqual([tried((6, (62,)), False, count)[0] for count in range(4)], [False] * 4)
        self.assertEqual([tried((5, (3, 7, 6, 5)), False, count)[0] for count in range(4)], [False] * 4)
        self.assertEqual([tried((5, (7, 28)), False, count)[0] for count in range(4)], [False] * 4)
        self.assertEqual([tried((5, (19, 7)), False, count)[0] for count in range(4)], [False, False, False, True])
        self.assertEqual([tried((6, (32, 1, 16)), False, count)[0] for count in range(4)], [True] * 4)

    def test_with_taking_out_there_are_never_more(self):
        numbers = Numbers(85)
        for turn in range(200):
            wish = some_wish(numbers, 1 + numbers.below(6), 1 + numbers.below(5))
            for count in range(4):
                if tried(wish, True, count)[0]:
                    self.assertIs(tried(wish, False, count)[0], True)

    def test_in_a_reasonable_time(self):
        numbers = Numbers(86)
        for many, most in ((4, 11), (5, 3), (6, 3)):
            for wish in long_wishes(numbers, many) + [(many, (2 ** many - 1,)), (4, (7, 11, 13, 14)), (4, (6, 9, 15))]:
                for count in range(most + 1):
                    start = time.process_time()
                    tried(wish, True, count)
                    tried(wish, False, count)
                    self.assertLess(time.process_time() - start, 5)


class TriedRefused(unittest.TestCase):
    def assert_refused(self, many, *counts):
        for rows in ((1,), (2 ** many - 1,), (1,) * 24):
            for clean in (False, True):
                for count in counts:
                    with self.assertRaises(TooMany) as caught:
                        tried((many, rows), clean, count)
                    self.assertIs(type(caught.exception), TooMany)
                    self.assertIsInstance(caught.exception, JoinError)

    def assert_not_refused(self, many, *counts):
        for count in counts:
            self.assertIs(tried((many, (1,)), False, count)[0], True)
            self.assertIs(tried((many, (1,) * 24), True, count)[0], True)

    def test_up_to_four_givens(self):
        for many in (1, 2, 3, 4):
            self.assert_not_refused(many, *range(12))
            self.assert_refused(many, 12, 13, -1, -2, GREAT, -GREAT)

    def test_five_and_six_givens(self):
        for many in (5, 6):
            self.assert_not_refused(many, 0, 1, 2, 3)
            self.assert_refused(many, 4, 5, 11, 12, -1, GREAT, -GREAT)

    def test_seven_givens_and_more(self):
        for many in (7, 8, 11, 12):
            self.assert_refused(many, 0, 1, 3, 4, 11, 12, -1, GREAT, -GREAT)

    def test_what_was_refused_changes_nothing(self):
        before = tried((4, (15, 3)), False, 2)
        self.assert_refused(4, 12, -1)
        self.assert_refused(7, 0)
        self.assertEqual(tried((4, (15, 3)), False, 2), before)


class Least(Told):
    def test_by_hand(self):
        self.assertEqual(least((1, (1,)), False), ((1, (), (0,)), None))
        self.assertEqual(least((4, (8, 1, 8)), True), ((4, (), (3, 0, 3)), None))
        net, paper = least((2, (3, 2)), False)
        self.assertEqual(net, (2, ((0, 1),), (2, 1)))
        self.assertIn(paper, (("rows",), ("far", 3)))

    def test_numbers_by_hand(self):
        told = {(3, (7,)): 2, (4, (15,)): 3, (4, (7, 14)): 3, (4, (7, 11)): 3, (4, (7, 11, 13, 14)): 6,
                (3, (3, 5, 6, 7)): 4, (4, (3, 12, 15)): 3, (4, (15, 7, 3, 1)): 3, (3, (3, 3, 7, 7)): 2}
        for wish, fewest in told.items():
            for clean in (False, True):
                self.assertEqual(len(least(wish, clean)[0][1]), fewest, wish)

    def test_taking_out_saves_a_joining(self):
        wish = (4, (3, 7, 15, 14))
        self.assertEqual(self.assert_least(wish, False), 4)
        self.assertEqual(self.assert_least(wish, True), 5)

    def test_all_sets_of_rows_of_up_to_three_givens(self):
        for wish in row_sets(1) + row_sets(2) + row_sets(3):
            for clean in (False, True):
                self.assert_least(wish, clean)

    def test_all_short_lists_of_rows_of_up_to_three_givens(self):
        for many in (1, 2, 3):
            for length in (1, 2, 3):
                for wish in row_lists(many, length):
                    self.assert_least(wish, False)
                    self.assert_least(wish, True)

    def test_drawn_wishes_of_four_givens(self):
        numbers = Numbers(87)
        unlike = 0
        for turn in range(500):
            wish = some_wish(numbers, 4, 1 + numbers.below(8))
            unlike += self.assert_least(wish, False) < self.assert_least(wish, True)
        self.assertGreater(unlike, 5)

    def test_wishes_of_four_givens_and_1_to_24_rows(self):
        for wish in long_wishes(Numbers(88), 4):
            for clean in (False, True):
                self.assert_least(wish, clean)

    def test_one_joining_less_is_tried_in_vain(self):
        numbers = Numbers(89)
        for turn in range(100):
            wish = some_wish(numbers, 4, 1 + numbers.below(5))
            for clean in (False, True):
                fewest = len(least(wish, clean)[0][1])
                self.assertEqual([tried(wish, clean, count)[0] for count in range(12)],
                                 [count >= fewest for count in range(12)])

    def test_above_four_givens(self):
        for many in (5, 6, 7, 12):
            for rows in ((1,), (2 ** many - 1,), (1,) * 24):
                for clean in (False, True):
                    with self.assertRaises(TooMany):
                        least((many, rows), clean)
        self.assertEqual(least((4, (1,)), False), ((4, (), (0,)), None))

    def test_asked_again_the_same_is_told(self):
        numbers = Numbers(90)
        for turn in range(50):
            wish = some_wish(numbers, 4, 3)
            for clean in (False, True):
                self.assertEqual(least(wish, clean), least(wish, clean))
                self.assertEqual(tried(wish, clean, 2), tried(wish, clean, 2))

    def test_in_a_reasonable_time(self):
        for wish in heavy_sets(4, 5)[::7]:
            start = time.process_time()
            least(wish, False)
            least(wish, True)
            self.assertLess(time.process_time() - start, 5)


class Promise(unittest.TestCase):
    def test_no_fewer_than_the_bound_and_no_more_than_told_ways(self):
        for wish in heavy_sets(4, 4) + long_wishes(Numbers(91), 4):
            any_net, clean_net = len(least(wish, False)[0][1]), len(least(wish, True)[0][1])
            self.assertLessEqual(bound(wish)[0], any_net)
            self.assertLessEqual(any_net, clean_net)
            self.assertLessEqual(any_net, len(likeness_net(wish)[1]))
            self.assertLessEqual(clean_net, len(pairs_net(wish)[1]))

    def test_turned_about_the_fewest_joinings_are_its_own_and_its_rows_less_its_givens(self):
        wishes = [wish for many in (1, 2, 3) for length in (1, 2, 3) for wish in row_lists(many, length)]
        numbers = Numbers(92)
        wishes += [some_wish(numbers, 1 + numbers.below(4), 4) for turn in range(200)]
        wishes += [some_wish(numbers, 4, 1 + numbers.below(4)) for turn in range(200)]
        held = 0
        for wish in wishes:
            try:
                turned = turned_wish(wish)
            except Bare:
                continue
            held += 1
            for clean in (False, True):
                net = least(wish, clean)[0]
                fewest = len(net[1]) + len(wish[1]) - wish[0]
                self.assertEqual(len(least(turned, clean)[0][1]), fewest, wish)
                self.assertIsNone(first_fault(turned_net(net), turned))
                self.assertEqual(len(turned_net(net)[1]), fewest)
        self.assertGreater(held, 400)


if __name__ == "__main__":
    unittest.main()
