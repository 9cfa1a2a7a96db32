"""Fewest steps in place [26], and what point 2 says of them."""

import itertools
import unittest

from fewjoins.errors import JoinError, Leans, NoFit, TooMany
from fewjoins.fewsteps import fewest_steps
from fewjoins.places import after, net_of_steps, placed
from fewjoins.nets import made_by


def all_steps(many):
    return list(itertools.permutations(range(many), 2))


def least_lengths(many, most):
    """For each row of cells how many steps it takes at least, by a walk through all lists of up to so many."""
    lengths = {}
    for length in range(most + 1):
        for steps in itertools.product(all_steps(many), repeat=length):
            lengths.setdefault(tuple(after(many, list(steps))), length)
    return lengths


def refusal(wish):
    try:
        fewest_steps(wish)
    except JoinError as error:
        return (type(error), getattr(error, "place", None))
    return None


class FewestSteps(unittest.TestCase):
    def assert_all_fewest(self, many, most, count):
        """All so many wishes that are made in place are told by as few steps as any list."""
        lengths = least_lengths(many, most)
        self.assertEqual(len(lengths), count)
        for rows, length in lengths.items():
            told = fewest_steps((many, rows))
            self.assertEqual(tuple(after(many, told)), rows)
            self.assertEqual(len(told), length, rows)
            self.assertTrue(all(step in all_steps(many) for step in told))

    def test_one_given(self):
        self.assertEqual(fewest_steps((1, (1,))), [])

    def test_all_wishes_of_two_givens(self):
        self.assert_all_fewest(2, 4, 6)

    def test_all_wishes_of_three_givens(self):
        self.assert_all_fewest(3, 6, 168)

    def test_told_ones(self):
        self.assertEqual(fewest_steps((2, (1, 2))), [])
        self.assertEqual(fewest_steps((2, (3, 2))), [(1, 0)])
        self.assertEqual(fewest_steps((2, (1, 3))), [(0, 1)])
        self.assertEqual(fewest_steps((2, (2, 3))), [(0, 1), (1, 0)])
        self.assertEqual(len(fewest_steps((2, (2, 1)))), 3)
        self.assertEqual(len(fewest_steps((3, (2, 4, 1)))), 6)
        self.assertEqual(fewest_steps((3, (1, 2, 6))), [(1, 2)])

    def test_no_more_steps_than_in_place(self):
        for rows in itertools.product(range(1, 8), repeat=3):
            if refusal((3, rows)) is None:
                steps, cells = placed((3, rows))
                if cells == [0, 1, 2]:
                    self.assertLessEqual(len(fewest_steps((3, rows))), len(steps))

    def test_its_net_makes_the_wish(self):
        for rows in itertools.product(range(1, 8), repeat=3):
            if refusal((3, rows)) is None:
                self.assertEqual(made_by(net_of_steps(3, fewest_steps((3, rows)))), list(rows))

    def test_is_a_list_of_tuples(self):
        told = fewest_steps((2, (2, 3)))
        self.assertIs(type(told), list)
        self.assertEqual([type(step) for step in told], [tuple, tuple])

    def test_no_fit(self):
        for wish in ((1, (1, 1)), (2, (1,)), (3, (1, 2)), (3, (1, 2, 4, 7)), (2, (1, 2, 3))):
            self.assertEqual(refusal(wish), (NoFit, None))

    def test_leans(self):
        self.assertEqual(refusal((2, (3, 3))), (Leans, 1))
        self.assertEqual(refusal((3, (1, 1, 2))), (Leans, 1))
        self.assertEqual(refusal((3, (3, 5, 6))), (Leans, 2))

    def test_refused_with_leans_just_where_in_place_is(self):
        for rows in itertools.product(range(1, 8), repeat=3):
            try:
                placed((3, rows))
                due = None
            except Leans as error:
                due = (Leans, error.place)
            self.assertEqual(refusal((3, rows)), due)

    def test_too_many(self):
        self.assertIsNone(refusal((3, (1, 2, 4))))
        self.assertEqual(refusal((4, (1, 2, 4, 8))), (TooMany, None))
        self.assertEqual(refusal((12, tuple(2 ** given for given in range(12)))), (TooMany, None))

    def test_which_refusal_is_told_first(self):
        self.assertEqual(refusal((4, (1, 1, 2))), (NoFit, None))
        self.assertEqual(refusal((4, (1, 2, 4, 8, 15))), (NoFit, None))
        self.assertEqual(refusal((3, (1, 1))), (NoFit, None))
        self.assertEqual(refusal((4, (1, 2, 3, 8))), (Leans, 2))
        self.assertEqual(refusal((12, (1,) * 12)), (Leans, 1))

    def test_a_changed_answer_changes_no_later_one(self):
        for rows in ((1, 2), (2, 3)):
            first = fewest_steps((2, rows))
            told = list(first)
            first.append((0, 1))
            self.assertEqual(fewest_steps((2, rows)), told)


if __name__ == "__main__":
    unittest.main()
