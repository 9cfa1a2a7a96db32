"""The small checker of bounds [27, 29], and what points 2 and 3 say of it."""

import copy
import unittest

from fewjoins.boundlook import bound_shown
from fewjoins.bounds import bound
from fewjoins.nets import made_by
from fewjoins.rows import givens_of, weight
from samples import Numbers, nested, odd_things, some_nets, some_wishes

GREAT = 10 ** 60 - 1


def are_rising_places(rows, thing):
    if type(thing) is not list or thing == []:
        return False
    if not all(type(place) is int and place in range(len(rows)) for place in thing):
        return False
    return all(thing[at] < thing[at + 1] for at in range(len(thing) - 1))


def is_reached(rows, places):
    """Whether one comes from the first place to each other one, from row to row by a given in both."""
    reached = [places[0]]
    for start in reached:
        reached += [place for place in places if place not in reached and rows[place] & rows[start]]
    return sorted(reached) == places


def slow_number(wish, paper):
    """Point 27, word by word: the number of a paper, None of what is none."""
    rows = wish[1]
    if type(paper) is not tuple or len(paper) != 2 or type(paper[0]) is not str:
        return None
    word, parts = paper
    if word == "unlike" and are_rising_places(rows, parts):
        told = [rows[place] for place in parts]
        weights = [weight(row) for row in told]
        if len(set(told)) == len(told) and min(weights) >= 2:
            return len(told) + min(weights) - 2
    if word == "hang" and type(parts) is list and parts:
        if not all(are_rising_places(rows, places) and is_reached(rows, places) for places in parts):
            return None
        every = [place for places in parts for place in places]
        givens = [sorted({given for place in places for given in givens_of(rows[place])}) for places in parts]
        if len(set(every)) == len(every) and len(set(sum(givens, []))) == len(sum(givens, [])):
            return sum(len(own) - 1 for own in givens)
    return None


def drawn_papers(numbers, wish, count):
    """Papers of all kinds for a wish, right and wrong ones."""
    length = len(wish[1])
    for turn in range(count):
        places = sorted({numbers.below(length) for step in range(1 + numbers.below(4))})
        yield ("unlike", places)
        numbered = [(numbers.below(3), place) for place in range(length)]
        classes = [[place for own, place in numbered if own == number] for number in range(1 + numbers.below(2))]
        yield ("hang", [places for places in classes if places])
        yield changed(numbers, ("hang", classes))
        yield changed(numbers, bound(wish)[1])


def changed(numbers, thing):
    """A copy of a thing in which one thing at some depth is left out, put in or another one."""
    if not isinstance(thing, (list, tuple)) or not thing or numbers.below(4) == 0:
        return other(numbers, thing)
    parts = list(thing)
    at = numbers.below(len(parts))
    deed = numbers.below(6)
    if deed == 0:
        del parts[at]
    elif deed == 1:
        parts.insert(at, parts[numbers.below(len(parts))])
    elif deed == 2:
        parts.reverse()
    else:
        parts[at] = changed(numbers, parts[at])
    return type(thing)(parts)


def other(numbers, thing):
    """Something else than a thing, but not unlike it."""
    if isinstance(thing, int):
        return (thing + 1, thing - 1, True, str(thing), None, [thing], 24, -1)[numbers.below(8)]
    if isinstance(thing, list):
        return (tuple(thing), [], thing + [0], None, [thing])[numbers.below(5)]
    if isinstance(thing, tuple):
        return (list(thing), (), thing + (0,), thing[:1])[numbers.below(4)]
    return ("unlike", "hang", "Hang", "", 1)[numbers.below(5)]


class Looker(unittest.TestCase):
    def assert_shown(self, wish, number, paper):
        self.assertIs(bound_shown(wish, number, paper), True, (wish, number, paper))

    def assert_not_shown(self, wish, *papers):
        for paper in papers:
            for number in (-GREAT, -1, 0, 1):
                self.assertIs(bound_shown(wish, number, paper), False, (wish, number, paper))

    def assert_number(self, wish, number, paper):
        """The paper is let by for all numbers up to this one."""
        for less in (-GREAT, -1, 0, number - 1, number):
            self.assert_shown(wish, less, paper)
        for greater in (number + 1, number + 2, GREAT):
            self.assertIs(bound_shown(wish, greater, paper), False)


class Unlike(Looker):
    wish = (5, (3, 31, 3, 4, 14, 31))

    def test_numbers(self):
        self.assert_number(self.wish, 1, ("unlike", [0]))
        self.assert_number(self.wish, 4, ("unlike", [1]))
        self.assert_number(self.wish, 2, ("unlike", [4]))
        self.assert_number(self.wish, 3, ("unlike", [1, 4]))
        self.assert_number(self.wish, 3, ("unlike", [4, 5]))
        self.assert_number(self.wish, 3, ("unlike", [0, 1, 4]))
        self.assert_number(self.wish, 3, ("unlike", [2, 4, 5]))

    def test_one_and_twelve_givens_and_24_rows(self):
        self.assert_not_shown((1, (1,)), ("unlike", [0]))
        self.assert_number((12, (4095,)), 11, ("unlike", [0]))
        rows = tuple(4095 - row for row in range(24))
        self.assert_number((12, rows), 24 + min(weight(row) for row in rows) - 2, ("unlike", list(range(24))))

    def test_bare(self):
        self.assert_not_shown(self.wish, ("unlike", []))

    def test_a_place_twice_or_not_rising(self):
        self.assert_not_shown(self.wish, ("unlike", [1, 1]), ("unlike", [4, 1]), ("unlike", [0, 1, 1, 4]))

    def test_a_place_beyond_or_below_0(self):
        self.assert_not_shown(self.wish, ("unlike", [6]), ("unlike", [1, 6]), ("unlike", [-1]), ("unlike", [-2, 1]),
                              ("unlike", [GREAT]), ("unlike", [-GREAT, 1]))

    def test_alike_rows(self):
        self.assert_not_shown(self.wish, ("unlike", [0, 2]), ("unlike", [1, 5]), ("unlike", [0, 1, 4, 5]))

    def test_a_row_of_weight_one(self):
        self.assert_not_shown(self.wish, ("unlike", [3]), ("unlike", [0, 3]), ("unlike", [1, 3, 4]))

    def test_no_places(self):
        self.assert_not_shown(self.wish, ("unlike", [True]), ("unlike", [False]), ("unlike", [False, True, 4]),
                              ("unlike", ["1"]), ("unlike", [None]), ("unlike", [[1]]), ("unlike", [(1,)]),
                              ("unlike", [[1], [4]]), ("unlike", [0, "1"]))

    def test_another_kind_of_list(self):
        self.assert_not_shown(self.wish, ("unlike", (1,)), ["unlike", [1]], ("unlike", "1"), ("unlike", 1),
                              ("unlike", None), ("unlike", "01"), ["unlike", (1,)])

    def test_a_part_more_or_fewer(self):
        self.assert_not_shown(self.wish, ("unlike",), ("unlike", [1], [4]), ("unlike", 1, 4), ("unlike", [1], None),
                              ([1],), ([1], "unlike"))

    def test_another_word(self):
        self.assert_not_shown(self.wish, ("", [1]), ("Unlike", [1]), ("unlike ", [1]), ("like", [1]), (None, [1]),
                              (0, [1]), (["unlike"], [1]), (("unlike",), [1]), ("hang", [1]), (True, [1]))


class Hang(Looker):
    wish = (8, (7, 8, 112, 128, 20, 7))

    def test_numbers(self):
        self.assert_number(self.wish, 2, ("hang", [[0]]))
        self.assert_number(self.wish, 0, ("hang", [[1]]))
        self.assert_number(self.wish, 2, ("hang", [[0, 5]]))
        self.assert_number(self.wish, 4, ("hang", [[0], [2]]))
        self.assert_number(self.wish, 4, ("hang", [[0], [1], [2], [3]]))
        self.assert_number(self.wish, 5, ("hang", [[0, 2, 4]]))
        self.assert_number(self.wish, 5, ("hang", [[0, 2, 4, 5], [1], [3]]))
        self.assert_number(self.wish, 3, ("hang", [[0, 4]]))

    def test_classes_in_any_order(self):
        self.assert_number(self.wish, 4, ("hang", [[2], [0]]))
        self.assert_number(self.wish, 5, ("hang", [[3], [0, 2, 4, 5], [1]]))

    def test_one_and_twelve_givens_and_24_rows(self):
        self.assert_number((1, (1,)), 0, ("hang", [[0]]))
        self.assert_number((1, (1,) * 24), 0, ("hang", [list(range(24))]))
        self.assert_number((12, (4095,)), 11, ("hang", [[0]]))
        self.assert_number((12, (63, 4032)), 10, ("hang", [[0], [1]]))
        self.assert_number((12, (4095,) * 24), 11, ("hang", [[23]]))

    def test_bare(self):
        self.assert_not_shown(self.wish, ("hang", []), ("hang", [[]]), ("hang", [[0], []]), ("hang", [[], [0]]))

    def test_a_place_twice_or_not_rising(self):
        self.assert_not_shown(self.wish, ("hang", [[0, 0]]), ("hang", [[5, 0]]), ("hang", [[0], [0]]),
                              ("hang", [[0, 5], [2], [5]]), ("hang", [[0, 4, 2]]))

    def test_a_place_beyond_or_below_0(self):
        self.assert_not_shown(self.wish, ("hang", [[6]]), ("hang", [[0, 6]]), ("hang", [[-1]]), ("hang", [[0], [-3]]),
                              ("hang", [[GREAT]]), ("hang", [[-GREAT]]))

    def test_classes_that_do_not_hang_together(self):
        self.assert_not_shown(self.wish, ("hang", [[0, 2]]), ("hang", [[0, 1]]), ("hang", [[1, 3], [0]]),
                              ("hang", [[0, 2, 5]]), ("hang", [[0, 1, 2, 3, 4, 5]]))

    def test_rows_that_hang_together_by_a_row_of_another_class_alone(self):
        self.assert_not_shown(self.wish, ("hang", [[0, 2], [4]]), ("hang", [[4], [0, 2]]))

    def test_two_classes_that_share_a_given(self):
        self.assert_not_shown(self.wish, ("hang", [[0], [4]]), ("hang", [[0], [5]]), ("hang", [[0], [1], [2, 4]]),
                              ("hang", [[4, 5], [3], [2]]))

    def test_no_places(self):
        self.assert_not_shown(self.wish, ("hang", [[True]]), ("hang", [[False]]), ("hang", [["0"]]),
                              ("hang", [[None]]), ("hang", [[[0]]]), ("hang", [0]), ("hang", ["0"]),
                              ("hang", [None]), ("hang", [0, 5]), ("hang", [[0], True]))

    def test_another_kind_of_list(self):
        self.assert_not_shown(self.wish, ("hang", ([0],)), ("hang", [(0,)]), ("hang", ((0,),)), ["hang", [[0]]],
                              ("hang", [[0], (2,)]), ("hang", None), ("hang", "0"), ("hang", 0))

    def test_a_part_more_or_fewer(self):
        self.assert_not_shown(self.wish, ("hang",), ("hang", [[0]], [[2]]), ("hang", [0], [2]), ([[0]],))

    def test_another_word(self):
        self.assert_not_shown(self.wish, ("", [[0]]), ("Hang", [[0]]), ("hangs", [[0]]), (None, [[0]]),
                              ("unlike", [[0]]), ([[0]], "hang"))


class Anything(Looker):
    def test_odd_things(self):
        for wish in ((1, (1,)), (2, (3,)), (8, (7, 8, 112, 128, 20, 7))):
            self.assert_not_shown(wish, *odd_things())

    def test_odd_things_within(self):
        for thing in odd_things():
            self.assert_not_shown(
                (2, (3, 2)), (thing, [0]), ("unlike", thing), ("hang", thing), ("unlike", [thing]), ("hang", [thing]),
                ("hang", [[thing]]), ("hang", [[0], thing]), ("unlike", [0], thing), ("unlike", [0, thing]))

    def test_a_paper_within_others_is_none(self):
        for depth in (1, 2, 27):
            for kind in (tuple, list):
                self.assert_not_shown((2, (3,)), nested(("unlike", [0]), depth, kind))
                self.assert_not_shown((2, (3,)), nested(("hang", [[0]]), depth, kind))

    def test_papers_of_another_wish(self):
        self.assert_not_shown((2, (3,)), bound((2, (1, 3)))[1], bound((2, (2, 2)))[1])

    def test_drawn_papers_held_against_the_words(self):
        numbers = Numbers(63)
        seen = {}
        for wish in some_wishes(64, 200):
            for paper in drawn_papers(numbers, wish, 4):
                number = slow_number(wish, paper)
                seen[(paper[0] if number is not None else None)] = True
                if number is None:
                    self.assert_not_shown(wish, paper)
                else:
                    self.assert_number(wish, number, paper)
        self.assertEqual(set(seen), {None, "unlike", "hang"})

    def test_what_is_let_by_is_no_greater_than_the_joinings_of_a_net(self):
        numbers = Numbers(65)
        shown = 0
        for net in some_nets(66, 300):
            wish = (net[0], tuple(made_by(net)))
            for paper in drawn_papers(numbers, wish, 3):
                self.assertIs(bound_shown(wish, len(net[1]) + 1, paper), False)
                shown += bound_shown(wish, 1, paper)
        self.assertGreater(shown, 100)

    def test_what_is_handed_in_is_not_changed(self):
        wish = (8, (7, 8, 112, 128, 20, 7))
        for paper in (("unlike", [0, 2]), ("unlike", [2, 0]), ("hang", [[0, 2, 4], [1]]), ("hang", [[4, 0]]),
                      ["hang", [[], [True]]]):
            before = copy.deepcopy(paper)
            told = bound_shown(wish, 1, paper)
            self.assertEqual(paper, before)
            self.assertIs(bound_shown(wish, 1, paper), told)


if __name__ == "__main__":
    unittest.main()
