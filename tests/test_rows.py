"""Rows and settings [4, 5], and what point 2 says of them."""

import unittest

from fewjoins.rows import givens_of, joined, row_of, tells, weight

ALL_ROWS = range(4096)


def givens_in(row):
    """The givens of a row, by the document's words: bit k is worth 2 to the k."""
    return [given for given in range(12) if row // 2 ** given % 2 == 1]


class Weights(unittest.TestCase):
    def test_edges(self):
        self.assertEqual(weight(0), 0)
        self.assertEqual(weight(1), 1)
        self.assertEqual(weight(2048), 1)
        self.assertEqual(weight(2049), 2)
        self.assertEqual(weight(4095), 12)

    def test_every_row(self):
        for row in ALL_ROWS:
            self.assertEqual(weight(row), len(givens_in(row)))

    def test_is_a_whole_number(self):
        for row in (0, 1, 4095):
            self.assertIs(type(weight(row)), int)

    def test_a_row_beyond_the_givens_is_not_refused(self):
        self.assertEqual(weight(4096), 1)
        self.assertEqual(weight(8191), 13)


class Givens(unittest.TestCase):
    def test_edges(self):
        self.assertEqual(givens_of(0), [])
        self.assertEqual(givens_of(1), [0])
        self.assertEqual(givens_of(2048), [11])
        self.assertEqual(givens_of(2049), [0, 11])
        self.assertEqual(givens_of(4095), list(range(12)))

    def test_every_row_rising(self):
        for row in ALL_ROWS:
            self.assertEqual(givens_of(row), givens_in(row))

    def test_is_a_list_of_whole_numbers(self):
        told = givens_of(2049)
        self.assertIs(type(told), list)
        self.assertEqual([type(given) for given in told], [int, int])

    def test_a_row_beyond_the_givens_is_not_refused(self):
        self.assertEqual(givens_of(4097), [0, 12])

    def test_a_changed_answer_changes_no_later_one(self):
        for row in (0, 5, 4095):
            first = givens_of(row)
            kept = list(first)
            second = givens_of(row)
            first.append(7)
            first[0] = 99
            self.assertEqual(second, kept)
            self.assertEqual(givens_of(row), kept)


class RowsOfGivens(unittest.TestCase):
    def test_edges(self):
        self.assertEqual(row_of([]), 0)
        self.assertEqual(row_of([0]), 1)
        self.assertEqual(row_of([11]), 2048)
        self.assertEqual(row_of(list(range(12))), 4095)

    def test_the_order_does_not_matter(self):
        self.assertEqual(row_of([2, 0]), 5)
        self.assertEqual(row_of([0, 2]), 5)
        self.assertEqual(row_of([11, 4, 0]), 2048 + 16 + 1)

    def test_an_even_number_of_times_is_not_in_it(self):
        self.assertEqual(row_of([3, 3]), 0)
        self.assertEqual(row_of([3, 1, 3]), 2)
        self.assertEqual(row_of([3, 3, 3]), 8)
        self.assertEqual(row_of([11] * 4 + [0] * 5), 1)

    def test_every_row_comes_back(self):
        for row in ALL_ROWS:
            self.assertEqual(row_of(givens_in(row)), row)
            self.assertEqual(row_of(givens_in(row)[::-1]), row)

    def test_is_a_whole_number(self):
        for givens in ([], [0], [3, 3]):
            self.assertIs(type(row_of(givens)), int)

    def test_the_handed_list_stays_as_it_was(self):
        for givens in ([], [5, 1, 5, 11], [0]):
            before = list(givens)
            row_of(givens)
            self.assertEqual(givens, before)

    def test_what_is_done_to_the_list_afterwards_changes_nothing(self):
        givens = [0, 1]
        row = row_of(givens)
        givens.append(2)
        self.assertEqual(row, 3)
        self.assertEqual(row_of([0, 1]), 3)


class Joined(unittest.TestCase):
    def test_edges(self):
        self.assertEqual(joined(0, 0), 0)
        self.assertEqual(joined(0, 4095), 4095)
        self.assertEqual(joined(4095, 4095), 0)
        self.assertEqual(joined(2048, 1), 2049)
        self.assertEqual(joined(3, 6), 5)

    def test_those_in_just_one_of_both(self):
        for one in range(64):
            for other in range(64):
                both = [given for given in range(12)
                        if (given in givens_in(one)) != (given in givens_in(other))]
                self.assertEqual(givens_in(joined(one, other)), both)

    def test_is_a_whole_number(self):
        self.assertIs(type(joined(1, 1)), int)
        self.assertIs(type(joined(1, 0)), int)


class Tells(unittest.TestCase):
    def test_edges(self):
        self.assertEqual(tells(0, 0), 0)
        self.assertEqual(tells(0, 4095), 0)
        self.assertEqual(tells(4095, 0), 0)
        self.assertEqual(tells(4095, 4095), 0)
        self.assertEqual(tells(2047, 4095), 1)
        self.assertEqual(tells(2048, 2048), 1)
        self.assertEqual(tells(2048, 2047), 0)
        self.assertEqual(tells(1, 1), 1)

    def test_an_odd_number_of_yes(self):
        for row in range(128):
            for setting in range(128):
                yes = [given for given in givens_in(row) if given in givens_in(setting)]
                self.assertEqual(tells(row, setting), len(yes) % 2)

    def test_the_last_given_at_every_setting(self):
        for setting in range(4096):
            self.assertEqual(tells(2048, setting), setting // 2048)

    def test_is_a_whole_number_and_no_truth(self):
        for row, setting in ((0, 0), (1, 1), (3, 1), (3, 3)):
            self.assertIs(type(tells(row, setting)), int)

    def test_a_joined_row_tells_1_where_just_one_of_both_does(self):
        for one in range(16):
            for other in range(16):
                for setting in range(16):
                    just_one = tells(one, setting) != tells(other, setting)
                    self.assertEqual(tells(joined(one, other), setting), int(just_one))

    def test_asked_again_the_same_is_told(self):
        for row in range(32):
            first = [tells(row, setting) for setting in range(32)]
            self.assertEqual([tells(row, setting) for setting in range(32)], first)


if __name__ == "__main__":
    unittest.main()
