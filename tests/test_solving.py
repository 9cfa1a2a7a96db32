"""Blind settings and settings for what is wanted [14, 15], and what point 2 says of them."""

import itertools
import unittest

from fewjoins.errors import JoinError, NoAnswer
from fewjoins.rank import basis
from fewjoins.rows import crossed, tells
from fewjoins.solving import blind, setting_for
from samples import Numbers, some_rows


def odd_sum(numbers):
    total = 0
    for number in numbers:
        total ^= number
    return total


def told_at(rows, setting):
    return [tells(row, setting) for row in rows]


def slow_blind(many, rows):
    """Point 14 word by word, by a walk through all settings."""
    told = []
    sums = {0}
    for setting in range(1, 2 ** many):
        if not any(told_at(rows, setting)) and setting not in sums:
            told.append(setting)
            sums |= {setting ^ other for other in sums}
    return told


def slow_setting(many, rows, wanted):
    """Point 15 word by word, None where there is no such setting."""
    for setting in range(2 ** many):
        if told_at(rows, setting) == wanted:
            return setting
    return None


def small_lists():
    """All lists of up to three rows of up to three givens, and some of up to ten of more."""
    for many in (1, 2, 3):
        for length in range(4):
            for rows in itertools.product(range(2 ** many), repeat=length):
                yield many, list(rows)
    numbers = Numbers(51)
    for turn in range(150):
        many = 1 + numbers.below(7)
        yield many, some_rows(numbers, many, numbers.below(11))


def long_lists():
    """Lists of up to 24 rows of twelve givens, some of small rank."""
    numbers = Numbers(53)
    for length in (0, 1, 5, 11, 12, 24):
        for reach in (2, 7, 12):
            few = some_rows(numbers, 12, reach)
            yield [odd_sum([row for row in few if numbers.below(2)]) for place in range(length)]


class Blind(unittest.TestCase):
    def test_told_ones(self):
        self.assertEqual(blind(3, [3, 5, 6]), [7])
        self.assertEqual(blind(3, [3]), [3, 4])
        self.assertEqual(blind(3, [6]), [1, 6])
        self.assertEqual(blind(4, [15]), [3, 5, 9])
        self.assertEqual(blind(4, [1, 8]), [2, 4])

    def test_the_least_one_and_not_just_any_one(self):
        # Blind are 1, 6 and 7: behind 1 the least one left is 6.
        self.assertEqual(blind(3, [6]), [1, 6])
        # Blind are 3, 8 and 11: behind 3 the least one left is 8.
        self.assertEqual(blind(4, [3, 4]), [3, 8])

    def test_one_given(self):
        self.assertEqual(blind(1, []), [1])
        self.assertEqual(blind(1, [0]), [1])
        self.assertEqual(blind(1, [1]), [])
        self.assertEqual(blind(1, [0, 1, 1]), [])

    def test_twelve_givens(self):
        givens = [2 ** given for given in range(12)]
        self.assertEqual(blind(12, []), givens)
        self.assertEqual(blind(12, givens), [])
        self.assertEqual(blind(12, [4095]), [1 + given for given in givens[1:]])
        self.assertEqual(blind(12, givens[:11]), [2048])
        self.assertEqual(blind(12, givens[1:]), [1])
        self.assertEqual(blind(12, [3 * given for given in givens[:11]]), [4095])

    def test_no_row_and_24_rows(self):
        self.assertEqual(blind(4, []), [1, 2, 4, 8])
        self.assertEqual(blind(4, [3] * 24), [3, 4, 8])
        self.assertEqual(blind(12, [2 ** given for given in range(12)] * 2), [])
        self.assertEqual(blind(4, [0] * 23 + [8]), [1, 2, 4])

    def test_row_0_and_alike_rows_change_nothing(self):
        self.assertEqual(blind(4, [0]), [1, 2, 4, 8])
        self.assertEqual(blind(4, [0, 9, 0, 6]), blind(4, [9, 6]))
        self.assertEqual(blind(4, [9, 6, 9, 6, 15]), blind(4, [9, 6]))

    def test_small_lists_held_against_a_walk_through_all_settings(self):
        for many, rows in small_lists():
            self.assertEqual(blind(many, rows), slow_blind(many, rows), (many, rows))

    def test_long_lists_held_against_a_walk_through_all_settings(self):
        for rows in long_lists():
            self.assertEqual(blind(12, rows), slow_blind(12, rows), rows)

    def test_as_many_as_givens_less_the_rank(self):
        for many, rows in itertools.chain(small_lists(), ((12, rows) for rows in long_lists())):
            self.assertEqual(len(blind(many, rows)), many - len(basis(rows)))

    def test_two_settings_are_told_alike_just_where_they_joined_are_blind(self):
        numbers = Numbers(55)
        for turn in range(40):
            many = 1 + numbers.below(4)
            rows = some_rows(numbers, many, numbers.below(5))
            sums = {0}
            for setting in blind(many, rows):
                sums |= {setting ^ other for other in sums}
            for one, other in itertools.product(range(2 ** many), repeat=2):
                self.assertEqual(told_at(rows, one) == told_at(rows, other), one ^ other in sums)

    def test_is_a_list_of_whole_numbers(self):
        told = blind(2, [3])
        self.assertIs(type(told), list)
        self.assertEqual([type(setting) for setting in told], [int])

    def test_the_handed_list_stays_as_it_was(self):
        for many, rows in small_lists():
            before = list(rows)
            blind(many, rows)
            self.assertEqual(rows, before)

    def test_a_changed_answer_changes_no_later_one(self):
        for rows, told in (([3], [3, 4]), ([1, 2, 4], [])):
            first = blind(3, rows)
            first.append(9)
            first[0] = 99
            self.assertEqual(blind(3, rows), told)

    def test_more_than_the_bounds_is_not_refused(self):
        self.assertEqual(blind(13, [2 ** given for given in range(12)] * 3), [4096])


class SettingFor(unittest.TestCase):
    def assert_no_answer(self, many, rows, wanted):
        """It is refused, and the told places are as point 15 says."""
        with self.assertRaises(NoAnswer) as caught:
            setting_for(many, rows, wanted)
        places = caught.exception.places
        self.assertIs(type(places), list)
        self.assertEqual({type(place) for place in places}, {int})
        self.assertEqual(places, sorted(set(places)))
        self.assertEqual(odd_sum([rows[place] for place in places]), 0, (rows, wanted))
        self.assertEqual(sum(wanted[place] for place in places) % 2, 1, (rows, wanted))
        return places

    def test_told_ones(self):
        self.assertEqual(setting_for(3, [3, 5], [1, 0]), 2)
        self.assertEqual(setting_for(3, [3, 5], [1, 1]), 1)
        self.assertEqual(setting_for(3, [3, 5, 6], [0, 1, 1]), 3)
        self.assertEqual(setting_for(3, [7], [1]), 1)
        self.assertEqual(setting_for(3, [6], [1]), 2)
        self.assertEqual(setting_for(2, [1, 2, 3], [1, 1, 0]), 3)

    def test_nothing_but_0_wanted(self):
        for rows in ([], [0], [1], [3, 3], [0] * 24, [2 ** given for given in range(12)] * 2):
            self.assertEqual(setting_for(12, rows, [0] * len(rows)), 0)

    def test_one_given(self):
        self.assertEqual(setting_for(1, [], []), 0)
        self.assertEqual(setting_for(1, [1], [1]), 1)
        self.assertEqual(setting_for(1, [1, 0, 1], [1, 0, 1]), 1)
        self.assertEqual(self.assert_no_answer(1, [0], [1]), [0])
        self.assertEqual(self.assert_no_answer(1, [1, 1], [1, 0]), [0, 1])

    def test_twelve_givens_and_24_rows(self):
        givens = [2 ** given for given in range(12)]
        self.assertEqual(setting_for(12, givens * 2, [1] * 24), 4095)
        self.assertEqual(setting_for(12, givens * 2, ([0] * 11 + [1]) * 2), 2048)
        self.assertEqual(setting_for(12, [4095] * 24, [1] * 24), 1)
        self.assertEqual(self.assert_no_answer(12, givens * 2, [1] * 23 + [0]), [11, 23])
        self.assertEqual(self.assert_no_answer(12, givens + [4095], [0] * 12 + [1]), list(range(13)))
        self.assertEqual(self.assert_no_answer(12, givens[:11] + [0] * 13, [0] * 23 + [1]), [23])

    def test_row_0_tells_0_alone(self):
        self.assertEqual(setting_for(3, [0, 4, 0], [0, 1, 0]), 4)
        self.assertEqual(self.assert_no_answer(3, [0, 4, 0], [0, 1, 1]), [2])
        self.assertEqual(self.assert_no_answer(3, [4, 0], [0, 1]), [1])

    def test_alike_rows_tell_the_same(self):
        self.assertEqual(setting_for(3, [6, 6, 6], [1, 1, 1]), 2)
        self.assert_no_answer(3, [6, 6, 6], [1, 0, 1])

    def test_three_rows_that_lean_on_one_another(self):
        for wanted in itertools.product((0, 1), repeat=3):
            wanted = list(wanted)
            if sum(wanted) % 2:
                self.assertEqual(self.assert_no_answer(3, [3, 5, 6], wanted), [0, 1, 2])
            else:
                self.assertEqual(setting_for(3, [3, 5, 6], wanted), slow_setting(3, [3, 5, 6], wanted))

    def test_small_lists_held_against_a_walk_through_all_settings(self):
        numbers = Numbers(57)
        for many, rows in small_lists():
            asked = list(itertools.product((0, 1), repeat=len(rows)))
            for turn in range(min(8, len(asked))):
                wanted = list(asked[turn if len(asked) <= 8 else numbers.below(len(asked))])
                least = slow_setting(many, rows, wanted)
                if least is None:
                    self.assert_no_answer(many, rows, wanted)
                else:
                    self.assertEqual(setting_for(many, rows, wanted), least, (many, rows, wanted))

    def test_long_lists_held_against_a_walk_through_all_settings(self):
        numbers = Numbers(59)
        for rows in long_lists():
            wanted = told_at(rows, numbers.below(4096))
            self.assertEqual(setting_for(12, rows, wanted), slow_setting(12, rows, wanted))
            if rows:
                place = numbers.below(len(rows))
                wanted[place] = 1 - wanted[place]
                least = slow_setting(12, rows, wanted)
                if least is None:
                    self.assert_no_answer(12, rows, wanted)
                else:
                    self.assertEqual(setting_for(12, rows, wanted), least)

    def test_is_a_whole_number(self):
        self.assertIs(type(setting_for(2, [1], [1])), int)
        self.assertIs(type(setting_for(2, [], [])), int)

    def test_no_answer_is_a_refusal_of_its_own(self):
        with self.assertRaises(JoinError) as caught:
            setting_for(2, [0], [1])
        self.assertIs(type(caught.exception), NoAnswer)

    def test_the_handed_lists_stay_as_they_were(self):
        for rows, wanted in (([3, 5, 6], [1, 0, 1]), ([3, 5, 6], [1, 1, 1]), ([0], [1])):
            before = (list(rows), list(wanted))
            try:
                setting_for(3, rows, wanted)
            except NoAnswer:
                pass
            self.assertEqual((rows, wanted), before)

    def test_changed_places_change_no_later_ones(self):
        for turn in range(2):
            with self.assertRaises(NoAnswer) as caught:
                setting_for(3, [3, 5, 6], [1, 1, 1])
            self.assertEqual(caught.exception.places, [0, 1, 2])
            caught.exception.places.append(9)

    def test_more_than_the_bounds_is_not_refused(self):
        givens = [2 ** given for given in range(13)]
        self.assertEqual(setting_for(13, givens * 2, [0] * 12 + [1] + [0] * 12 + [1]), 4096)
        self.assertEqual(self.assert_no_answer(13, givens * 2, [0] * 25 + [1]), [12, 25])


class Crossed(unittest.TestCase):
    def test_told_ones(self):
        self.assertEqual(crossed(3, [3, 5]), [3, 1, 2])
        self.assertEqual(crossed(1, []), [0])
        self.assertEqual(crossed(2, [0, 2, 2]), [0, 6])

    def test_crossed_twice_it_is_the_same(self):
        numbers = Numbers(61)
        for turn in range(40):
            rows = some_rows(numbers, 12, 1 + numbers.below(24))
            self.assertEqual(crossed(len(rows), crossed(12, rows)), rows)


if __name__ == "__main__":
    unittest.main()
