"""Rank [12, 13], and what point 2 says of it."""

import itertools
import unittest

from fewjoins.rank import basis, parts_of
from samples import Numbers, some_rows


def odd_sum(rows, places):
    total = 0
    for place in places:
        total ^= rows[place]
    return total


def choices(places):
    """All rising lists of some of these places."""
    for size in range(len(places) + 1):
        for chosen in itertools.combinations(places, size):
            yield list(chosen)


def slow_basis(rows):
    """Point 12 word by word, through all odd sums."""
    places = []
    for place, row in enumerate(rows):
        if row not in [odd_sum(rows, chosen) for chosen in choices(places)]:
            places.append(place)
    return places


def slow_parts(rows, row):
    """Point 13 word by word: all lists of places in the basis whose odd sum the row is."""
    return [chosen for chosen in choices(slow_basis(rows)) if odd_sum(rows, chosen) == row]


def small_lists():
    """All lists of up to four rows of two givens, and some of up to nine of more."""
    for length in range(5):
        for rows in itertools.product(range(4), repeat=length):
            yield 2, list(rows)
    numbers = Numbers(31)
    for turn in range(120):
        many = 1 + numbers.below(6)
        yield many, some_rows(numbers, many, numbers.below(10))


class Basis(unittest.TestCase):
    def test_told_ones(self):
        self.assertEqual(basis([3, 5, 6]), [0, 1])
        self.assertEqual(basis([3, 5, 6, 7]), [0, 1, 3])
        self.assertEqual(basis([7, 3, 4, 1]), [0, 1, 3])

    def test_no_row(self):
        self.assertEqual(basis([]), [])

    def test_row_0_is_never_in_it(self):
        self.assertEqual(basis([0]), [])
        self.assertEqual(basis([0, 0, 5, 0]), [2])
        self.assertEqual(basis([1, 0, 2]), [0, 2])

    def test_alike_rows(self):
        self.assertEqual(basis([6, 6]), [0])
        self.assertEqual(basis([6, 5, 6, 5, 1]), [0, 1, 4])

    def test_24_rows_of_twelve_givens(self):
        givens = [2 ** given for given in range(12)]
        self.assertEqual(basis(givens * 2), list(range(12)))
        self.assertEqual(basis([0] * 12 + givens), list(range(12, 24)))
        self.assertEqual(basis([4095] * 24), [0])
        self.assertEqual(basis([4095] + givens + givens[:11]), list(range(12)))
        self.assertEqual(basis([0] * 23 + [2048]), [23])

    def test_running_sums(self):
        rows = [2 ** (given + 1) - 1 for given in range(12)]
        self.assertEqual(basis(rows + rows[::-1]), list(range(12)))
        self.assertEqual(basis(rows[::-1] + rows), list(range(12)))

    def test_small_lists_held_against_all_odd_sums(self):
        for many, rows in small_lists():
            self.assertEqual(basis(rows), slow_basis(rows), rows)

    def test_is_a_list_of_whole_numbers(self):
        told = basis([1, 1, 2])
        self.assertIs(type(told), list)
        self.assertEqual([type(place) for place in told], [int, int])

    def test_the_handed_list_stays_as_it_was(self):
        for many, rows in small_lists():
            before = list(rows)
            basis(rows)
            self.assertEqual(rows, before)

    def test_a_changed_answer_changes_no_later_one(self):
        rows = [3, 5, 6, 7]
        first = basis(rows)
        first.append(9)
        first[0] = 99
        self.assertEqual(rows, [3, 5, 6, 7])
        self.assertEqual(basis(rows), [0, 1, 3])

    def test_what_is_done_to_the_list_afterwards_changes_nothing(self):
        rows = [3, 5]
        told = basis(rows)
        rows.append(4)
        self.assertEqual(told, [0, 1])
        self.assertEqual(basis([3, 5]), [0, 1])

    def test_more_than_the_bounds_is_not_refused(self):
        self.assertEqual(basis([2 ** given for given in range(14)] * 2), list(range(14)))


class Parts(unittest.TestCase):
    def test_told_ones(self):
        self.assertEqual(parts_of([3, 5, 6], 6), [0, 1])
        self.assertEqual(parts_of([3, 5, 6], 3), [0])
        self.assertEqual(parts_of([3, 5, 6, 7], 1), [0, 1, 3])
        self.assertIsNone(parts_of([3, 5, 6], 1))

    def test_no_row(self):
        self.assertEqual(parts_of([], 0), [])
        self.assertIsNone(parts_of([], 1))
        self.assertIsNone(parts_of([], 4095))

    def test_of_row_0_the_bare_list(self):
        for rows in ([], [0], [1], [3, 3], [3, 5, 6], [0] * 24):
            self.assertEqual(parts_of(rows, 0), [])

    def test_row_0_in_the_list(self):
        self.assertEqual(parts_of([0, 3, 0, 1], 2), [1, 3])
        self.assertIsNone(parts_of([0], 1))

    def test_alike_rows_give_the_first_place(self):
        self.assertEqual(parts_of([6, 6], 6), [0])
        self.assertEqual(parts_of([0, 5, 5, 6, 6], 3), [1, 3])

    def test_24_rows_of_twelve_givens(self):
        givens = [2 ** given for given in range(12)]
        self.assertEqual(parts_of([0] * 12 + givens, 4095), list(range(12, 24)))
        self.assertEqual(parts_of([0] * 23 + [2048], 2048), [23])
        rows = [2 ** (given + 1) - 1 for given in range(12)]
        self.assertEqual(parts_of(rows * 2, 2048), [10, 11])
        self.assertEqual(parts_of(rows[::-1] * 2, 2048), [0, 1])
        self.assertEqual(parts_of(rows * 2, 0b101010101010), list(range(12)))

    def test_a_row_of_a_given_that_no_row_has(self):
        self.assertIsNone(parts_of([3, 1], 4))
        self.assertIsNone(parts_of([3, 1], 2048 + 1))
        self.assertIsNone(parts_of([2048, 4], 1))

    def test_small_lists_held_against_all_odd_sums(self):
        for many, rows in small_lists():
            for row in range(2 ** many):
                found = slow_parts(rows, row)
                self.assertLessEqual(len(found), 1)
                self.assertEqual(parts_of(rows, row), found[0] if found else None, (rows, row))

    def test_each_row_of_long_lists_is_the_sum_of_its_parts(self):
        numbers = Numbers(41)
        for turn in range(60):
            rows = some_rows(numbers, 12, 24)
            places = basis(rows)
            for row in rows:
                told = parts_of(rows, row)
                self.assertEqual(odd_sum(rows, told), row)
                self.assertEqual(told, [place for place in places if place in told])

    def test_of_a_row_in_the_basis_its_own_place(self):
        numbers = Numbers(43)
        for turn in range(60):
            rows = some_rows(numbers, 12, 24)
            for place in basis(rows):
                self.assertEqual(parts_of(rows, rows[place]), [place])

    def test_is_a_list_of_whole_numbers(self):
        told = parts_of([1, 2], 3)
        self.assertIs(type(told), list)
        self.assertEqual([type(place) for place in told], [int, int])

    def test_the_handed_list_stays_as_it_was(self):
        for many, rows in small_lists():
            before = list(rows)
            parts_of(rows, 1)
            self.assertEqual(rows, before)

    def test_a_changed_answer_changes_no_later_one(self):
        rows = [3, 5, 6]
        for row, parts in ((6, [0, 1]), (0, [])):
            first = parts_of(rows, row)
            first.append(9)
            self.assertEqual(rows, [3, 5, 6])
            self.assertEqual(parts_of(rows, row), parts)


if __name__ == "__main__":
    unittest.main()
