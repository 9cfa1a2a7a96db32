"""In place [23 to 25], and what points 2 and 3 say of it."""

import itertools
import unittest

from fewjoins.errors import JoinError, Leans, NoFit
from fewjoins.judged import first_fault
from fewjoins.nets import is_net, made_by
from fewjoins.places import after, net_of_steps, placed
from samples import Numbers


def some_steps(numbers, many, length):
    """So many steps of two cells or more; of one cell there are none."""
    steps = []
    while many > 1 and len(steps) < length:
        step = (numbers.below(many), numbers.below(many))
        if step[0] != step[1]:
            steps.append(step)
    return steps


def lists_of_steps():
    """Many, and a list of steps: no step and 132 steps among them."""
    numbers = Numbers(121)
    for many in (1, 2, 3, 12):
        for length in (0, 1, 2, 132):
            yield many, some_steps(numbers, many, length)
    for turn in range(200):
        many = 1 + numbers.below(12)
        yield many, some_steps(numbers, many, numbers.below(40))


def odd_sums(rows):
    sums = {0}
    for row in rows:
        sums |= {row ^ other for other in sums}
    return sums


def first_leaning(rows):
    """The first place whose row is an odd sum of rows ahead of it, or None."""
    for place, row in enumerate(rows):
        if row in odd_sums(rows[:place]):
            return place
    return None


def all_small_wishes():
    """All wishes of as many rows as givens, up to three of them."""
    for many in (1, 2, 3):
        for rows in itertools.product(range(1, 2 ** many), repeat=many):
            yield (many, rows)


def wishes_in_place():
    """Wishes that are made in place: all of up to three givens, and some of up to twelve."""
    for wish in all_small_wishes():
        if first_leaning(wish[1]) is None:
            yield wish
    numbers = Numbers(123)
    for turn in range(150):
        many = 4 + numbers.below(9)
        rows = [2 ** given for given in range(many)]
        for a, b in some_steps(numbers, many, 5 + numbers.below(80)):
            rows[b] ^= rows[a]
        order = sorted(range(many), key=lambda place: numbers.below(1000))
        yield (many, tuple(rows[place] for place in order))


def slow_placed(wish):
    """Point 24 word by word, with sets of givens."""
    many, rows = wish
    now = [{given for given in range(many) if row >> given & 1} for row in rows]
    cells = [None] * many
    joinings = []
    for k in range(many):
        chosen = min(place for place in range(many) if cells[place] is None and k in now[place])
        cells[chosen] = k
        for other in range(many):
            if other != chosen and k in now[other]:
                now[other] = now[other] ^ now[chosen]
                joinings.append((chosen, other))
    assert all(now[place] == {cells[place]} for place in range(many))
    return ([(cells[chosen], cells[other]) for chosen, other in joinings[::-1]], cells)


def refusal(wish):
    try:
        placed(wish)
    except JoinError as error:
        return (type(error), getattr(error, "place", None))
    return None


class After(unittest.TestCase):
    def test_no_step(self):
        self.assertEqual(after(1, []), [1])
        self.assertEqual(after(3, []), [1, 2, 4])
        self.assertEqual(after(12, []), [2 ** given for given in range(12)])

    def test_told_ones(self):
        self.assertEqual(after(2, [(0, 1)]), [1, 3])
        self.assertEqual(after(2, [(1, 0)]), [3, 2])
        self.assertEqual(after(2, [(0, 1), (1, 0)]), [2, 3])
        self.assertEqual(after(2, [(0, 1), (1, 0), (0, 1)]), [2, 1])
        self.assertEqual(after(3, [(0, 1), (1, 2), (2, 0)]), [6, 3, 7])

    def test_the_same_step_twice_changes_nothing(self):
        self.assertEqual(after(3, [(2, 0), (2, 0)]), [1, 2, 4])

    def test_132_steps(self):
        self.assertEqual(after(2, [(0, 1)] * 132), [1, 2])
        self.assertEqual(after(2, [(0, 1)] * 131), [1, 3])
        self.assertEqual(after(2, [(0, 1), (1, 0)] * 66), [1, 2])
        self.assertEqual(after(12, [(11, 0)] * 131), [2049] + [2 ** given for given in range(1, 12)])

    def test_cells_hold_no_odd_sum_of_one_another(self):
        for many, steps in lists_of_steps():
            self.assertIsNone(first_leaning(after(many, steps)))

    def test_the_handed_list_stays_as_it_was(self):
        for many, steps in lists_of_steps():
            before = list(steps)
            after(many, steps)
            self.assertEqual(steps, before)

    def test_a_changed_answer_changes_no_later_one(self):
        for steps in ([], [(0, 1)]):
            first = after(2, steps)
            told = list(first)
            first.append(9)
            first[0] = 99
            self.assertEqual(after(2, steps), told)

    def test_is_a_list(self):
        self.assertIs(type(after(2, [])), list)

    def test_more_than_the_bounds_is_not_refused(self):
        self.assertEqual(after(13, [(12, 0)] * 133)[0], 4097)


class Placed(unittest.TestCase):
    def test_told_ones(self):
        self.assertEqual(placed((1, (1,))), ([], [0]))
        self.assertEqual(placed((2, (1, 2))), ([], [0, 1]))
        self.assertEqual(placed((2, (2, 1))), ([], [1, 0]))
        self.assertEqual(placed((2, (3, 2))), ([(1, 0)], [0, 1]))
        self.assertEqual(placed((2, (3, 1))), ([(1, 0), (0, 1)], [0, 1]))

    def test_three_rows_by_hand(self):
        # Given 0: row 0 is chosen, row 1 becomes 4. Given 1: row 2 is chosen, row 0 becomes 1.
        # Given 2: row 1 is chosen, row 2 becomes 2.
        self.assertEqual(placed((3, (7, 3, 6))), ([(2, 1), (1, 0), (0, 2)], [0, 2, 1]))

    def test_chosen_rows_are_joined_too_by_places_rising(self):
        # Given 0: row 0 chosen. Given 1: row 1 chosen, rows 0 and 2 are joined with it. Given 2: row 2 chosen.
        self.assertEqual(placed((3, (3, 2, 6))), ([(1, 0), (1, 2)][::-1], [0, 1, 2]))
        # Given 0: row 2 chosen. Given 1: row 0 chosen, rows 1 and 2 joined. Given 2: row 1 chosen.
        self.assertEqual(placed((3, (2, 6, 3))), ([(1, 0), (1, 2)], [1, 2, 0]))

    def test_the_first_row_not_chosen_yet(self):
        # Given 1 is in rows 0 and 2: row 0 is chosen already.
        self.assertEqual(placed((3, (3, 4, 2))), ([(1, 0)], [0, 2, 1]))

    def test_held_against_the_words(self):
        for wish in wishes_in_place():
            self.assertEqual(placed(wish), slow_placed(wish), wish)

    def test_behind_the_steps_the_cell_of_each_row_holds_what_was_wished(self):
        for wish in wishes_in_place():
            steps, cells = placed(wish)
            held = after(wish[0], steps)
            self.assertEqual(tuple(held[cell] for cell in cells), wish[1])
            self.assertEqual(sorted(cells), list(range(wish[0])))
            self.assertTrue(all(a != b for a, b in steps))

    def test_132_steps(self):
        rows = [2 ** given for given in range(12)]
        for given in range(11, -1, -1):
            for place in range(12):
                if place != given:
                    rows[place] ^= rows[given]
        steps, cells = placed((12, tuple(rows)))
        self.assertEqual(len(steps), 132)
        self.assertEqual(cells, list(range(12)))
        self.assertEqual(after(12, steps), rows)
        self.assertTrue(is_net(net_of_steps(12, steps)))
        self.assertIsNone(first_fault(net_of_steps(12, steps), (12, tuple(rows))))

    def test_no_fit(self):
        self.assertEqual(refusal((2, (1,))), (NoFit, None))
        self.assertEqual(refusal((2, (1, 2, 3))), (NoFit, None))
        self.assertEqual(refusal((1, (1, 1))), (NoFit, None))
        self.assertEqual(refusal((12, tuple(2 ** given for given in range(11)))), (NoFit, None))
        self.assertEqual(refusal((12, (1,) * 24)), (NoFit, None))

    def test_leans(self):
        self.assertEqual(refusal((2, (3, 3))), (Leans, 1))
        self.assertEqual(refusal((3, (1, 2, 3))), (Leans, 2))
        self.assertEqual(refusal((3, (5, 5, 2))), (Leans, 1))
        self.assertEqual(refusal((4, (3, 5, 6, 8))), (Leans, 2))
        self.assertEqual(refusal((12, tuple(2 ** given for given in range(11)) + (2047,))), (Leans, 11))

    def test_the_first_place_that_leans(self):
        self.assertEqual(refusal((4, (1, 1, 1, 1))), (Leans, 1))
        self.assertEqual(refusal((4, (3, 5, 6, 3))), (Leans, 2))
        self.assertEqual(refusal((4, (3, 5, 8, 6))), (Leans, 3))

    def test_refused_just_where_a_row_leans(self):
        for many, rows in all_small_wishes():
            place = first_leaning(rows)
            self.assertEqual(refusal((many, rows)), None if place is None else (Leans, place))

    def test_no_fit_is_told_ahead_of_leans(self):
        self.assertEqual(refusal((3, (1, 1))), (NoFit, None))
        self.assertEqual(refusal((3, (1, 2, 3, 3))), (NoFit, None))
        self.assertEqual(refusal((3, (1, 2, 3))), (Leans, 2))

    def test_is_a_tuple_of_two_lists(self):
        told = placed((2, (3, 1)))
        self.assertIs(type(told), tuple)
        self.assertEqual([type(part) for part in told], [list, list])
        self.assertEqual([type(step) for step in told[0]], [tuple, tuple])

    def test_changed_answers_change_no_later_ones(self):
        steps, cells = placed((2, (3, 1)))
        steps.append((0, 1))
        cells[0] = 99
        self.assertEqual(placed((2, (3, 1))), ([(1, 0), (0, 1)], [0, 1]))


class NetOfSteps(unittest.TestCase):
    def test_no_step(self):
        self.assertEqual(net_of_steps(1, []), (1, (), (0,)))
        self.assertEqual(net_of_steps(12, []), (12, (), tuple(range(12))))

    def test_told_ones(self):
        self.assertEqual(net_of_steps(2, [(0, 1)]), (2, ((0, 1),), (0, 2)))
        self.assertEqual(net_of_steps(2, [(1, 0)]), (2, ((0, 1),), (2, 1)))
        self.assertEqual(net_of_steps(2, [(0, 1), (0, 1)]), (2, ((0, 1), (0, 2)), (0, 3)))
        self.assertEqual(net_of_steps(3, [(0, 1), (1, 2), (2, 0)]), (3, ((0, 1), (2, 3), (0, 4)), (5, 3, 4)))
        self.assertEqual(net_of_steps(3, [(1, 0), (0, 2), (1, 2)]), (3, ((0, 1), (2, 3), (1, 4)), (3, 1, 5)))

    def test_makes_what_the_cells_hold(self):
        for many, steps in lists_of_steps():
            told = net_of_steps(many, steps)
            self.assertTrue(is_net(told))
            self.assertEqual(made_by(told), after(many, steps))
            self.assertEqual(len(told[1]), len(steps))
            self.assertEqual(len(told[2]), many)

    def test_makes_a_wish_made_in_place(self):
        for wish in wishes_in_place():
            steps, cells = placed(wish)
            many, joins, outs = net_of_steps(wish[0], steps)
            self.assertIsNone(first_fault((many, joins, tuple(outs[cell] for cell in cells)), wish))

    def test_the_handed_list_stays_as_it_was(self):
        for many, steps in lists_of_steps():
            before = list(steps)
            net_of_steps(many, steps)
            self.assertEqual(steps, before)

    def test_asked_again_the_same_is_told(self):
        for many, steps in lists_of_steps():
            self.assertEqual(net_of_steps(many, steps), net_of_steps(many, steps))

    def test_more_than_132_steps_are_not_refused(self):
        self.assertEqual(len(net_of_steps(2, [(0, 1)] * 133)[1]), 133)


if __name__ == "__main__":
    unittest.main()
