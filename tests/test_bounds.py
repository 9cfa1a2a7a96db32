"""Bounds and their papers [27, 28], and what points 2 and 3 say of them."""

import copy
import itertools
import unittest

from fewjoins.bounds import bound
from fewjoins.boundlook import bound_shown
from fewjoins.likeness import likeness_net
from fewjoins.nets import made_by
from fewjoins.pairs import pairs_net
from fewjoins.plain import plain_net
from fewjoins.rows import givens_of, weight
from samples import some_nets, some_wishes

WISHES = some_wishes(61, 400)


def slow_classes(rows):
    """All places in classes: each place's number is made that of a place whose row has a given in common."""
    numbers = list(range(len(rows)))
    for turn in rows:
        for one, other in itertools.permutations(range(len(rows)), 2):
            if rows[one] & rows[other]:
                numbers[one] = min(numbers[one], numbers[other])
    return [[place for place, own in enumerate(numbers) if own == number] for number in sorted(set(numbers))]


def slow_bound(wish):
    """Point 28, word by word."""
    rows = wish[1]
    classes = slow_classes(rows)
    hang = sum(len(set().union(*[givens_of(rows[place]) for place in places])) - 1 for places in classes)
    places = sorted({rows.index(row) for row in rows if weight(row) >= 2})
    if not places:
        return (0, ("hang", classes))
    unlike = len(places) + min(weight(rows[place]) for place in places) - 2
    return (hang, ("hang", classes)) if hang > unlike else (unlike, ("unlike", places))


class Bound(unittest.TestCase):
    def test_one_row(self):
        self.assertEqual(bound((2, (3,))), (1, ("unlike", [0])))
        self.assertEqual(bound((3, (7,))), (2, ("unlike", [0])))
        self.assertEqual(bound((12, (4095,))), (11, ("unlike", [0])))

    def test_more_unlike_rows_than_givens_hang_together(self):
        self.assertEqual(bound((3, (3, 5, 6))), (3, ("unlike", [0, 1, 2])))
        self.assertEqual(bound((3, (3, 5, 6, 7))), (4, ("unlike", [0, 1, 2, 3])))

    def test_givens_that_hang_together(self):
        self.assertEqual(bound((4, (3, 14))), (3, ("hang", [[0, 1]])))
        self.assertEqual(bound((5, (31, 3))), (4, ("hang", [[0, 1]])))

    def test_of_like_numbers_the_first(self):
        self.assertEqual(bound((4, (7, 14))), (3, ("unlike", [0, 1])))
        self.assertEqual(bound((3, (3, 6))), (2, ("unlike", [0, 1])))
        self.assertEqual(bound((4, (3, 12))), (2, ("unlike", [0, 1])))

    def test_alike_rows(self):
        self.assertEqual(bound((2, (3, 3, 3))), (1, ("unlike", [0])))
        self.assertEqual(bound((3, (6, 3, 6, 3, 5))), (3, ("unlike", [0, 1, 4])))
        self.assertEqual(bound((6, (7, 56, 7, 56))), (4, ("hang", [[0, 2], [1, 3]])))

    def test_several_classes(self):
        self.assertEqual(bound((6, (7, 56))), (4, ("hang", [[0], [1]])))
        self.assertEqual(bound((8, (240, 15, 128, 1))), (6, ("hang", [[0, 2], [1, 3]])))
        self.assertEqual(bound((6, (7, 48, 8, 7))), (3, ("hang", [[0, 3], [1], [2]])))

    def test_two_classes_that_a_later_row_hangs_together(self):
        self.assertEqual(bound((5, (3, 24, 6, 12))), (4, ("unlike", [0, 1, 2, 3])))
        self.assertEqual(bound((6, (7, 56, 12))), (5, ("hang", [[0, 1, 2]])))
        self.assertEqual(bound((8, (7, 8, 112, 128, 20))), (5, ("hang", [[0, 2, 4], [1], [3]])))

    def test_rows_of_one_given_are_in_classes(self):
        self.assertEqual(bound((5, (1, 15, 2))), (3, ("unlike", [1])))
        self.assertEqual(bound((5, (1, 15, 16, 3))), (3, ("hang", [[0, 1, 3], [2]])))
        self.assertEqual(bound((5, (16, 3, 15, 1))), (3, ("hang", [[0], [1, 2, 3]])))

    def test_without_rows_of_weight_two_or_more(self):
        self.assertEqual(bound((1, (1,))), (0, ("hang", [[0]])))
        self.assertEqual(bound((1, (1, 1))), (0, ("hang", [[0, 1]])))
        self.assertEqual(bound((3, (4, 1, 4))), (0, ("hang", [[0, 2], [1]])))
        self.assertEqual(bound((12, (2048, 1))), (0, ("hang", [[0], [1]])))

    def test_one_given_and_24_rows(self):
        self.assertEqual(bound((1, (1,) * 24)), (0, ("hang", [list(range(24))])))

    def test_twelve_givens_and_24_rows(self):
        rows = tuple(4095 - 2 ** given for given in range(12)) * 2
        self.assertEqual(bound((12, rows)), (21, ("unlike", list(range(12)))))
        self.assertEqual(bound((12, (4095,) * 24)), (11, ("unlike", [0])))
        self.assertEqual(bound((12, tuple(2 ** given for given in range(12)) * 2)),
                         (0, ("hang", [[place, place + 12] for place in range(12)])))

    def test_all_lists_of_three_rows_of_three_givens(self):
        for rows in itertools.product(range(1, 8), repeat=3):
            self.assertEqual(bound((3, rows)), slow_bound((3, rows)))

    def test_drawn_wishes_held_against_the_words(self):
        seen = set()
        for wish in WISHES:
            told = bound(wish)
            seen.add(told[1][0])
            self.assertEqual(told, slow_bound(wish), wish)
        self.assertEqual(seen, {"unlike", "hang"})

    def test_kinds(self):
        for wish in WISHES:
            told = bound(wish)
            number, paper = told
            self.assertEqual([type(told), type(number), type(paper), type(paper[1])], [tuple, int, tuple, list])
            lists = paper[1] if paper[0] == "hang" else [paper[1]]
            for places in lists:
                self.assertIs(type(places), list)
                self.assertTrue(all(type(place) is int for place in places))


class Promise(unittest.TestCase):
    def test_the_checker_lets_the_paper_by_for_the_number_and_no_greater_one(self):
        for wish in WISHES:
            number, paper = bound(wish)
            self.assertIs(bound_shown(wish, number, paper), True)
            self.assertIs(bound_shown(wish, number + 1, paper), False)

    def test_no_greater_than_the_joinings_of_told_ways(self):
        for wish in WISHES:
            for way in (pairs_net, likeness_net):
                self.assertLessEqual(bound(wish)[0], len(way(wish)[1]), wish)
            if sum(weight(row) - 1 for row in wish[1]) <= 132:
                self.assertLessEqual(bound(wish)[0], len(plain_net(wish)[1]))

    def test_no_greater_than_the_joinings_of_drawn_nets(self):
        for net in some_nets(62, 400):
            wish = (net[0], tuple(made_by(net)))
            self.assertLessEqual(bound(wish)[0], len(net[1]))


class Asked(unittest.TestCase):
    def test_asked_again_the_same_is_told(self):
        for wish in WISHES:
            self.assertEqual(bound(wish), bound(wish))

    def test_told_lists_are_the_askers_own(self):
        for wish in ((3, (3, 5, 6)), (4, (3, 14)), (6, (7, 56, 7)), (3, (1, 4))):
            first = bound(wish)
            before = copy.deepcopy(first)
            second = bound(wish)
            parts = first[1][1]
            if isinstance(parts[0], list):
                parts[0].append(99)
                parts.append(parts[0])
            else:
                parts[0] = 99
            self.assertEqual(second, before)
            self.assertEqual(bound(wish), before)


if __name__ == "__main__":
    unittest.main()
