"""The refusals: their base, their fields, and what they keep [2, the interface]."""

import unittest

from fewjoins.errors import (Bare, JoinError, Leans, Loose, NoAnswer, NoFit, NoName, NoRow,
                             NoText, NoWidth, Nought, TooMany)

WORDED = (NoFit, TooMany, NoWidth, NoRow, NoName)
NUMBERED = ((Nought, "at"), (Bare, "given"), (Loose, "thing"), (Leans, "place"), (NoText, "row"))
ALL = WORDED + tuple(kind for kind, field in NUMBERED) + (NoAnswer,)


def made(kind):
    """An error of this kind, made as the interface says."""
    if kind in WORDED:
        return kind("some words")
    if kind is NoAnswer:
        return kind([0, 3])
    return kind(3)


class Bases(unittest.TestCase):
    def test_the_base_stands_straight_under_value_error(self):
        self.assertEqual(JoinError.__bases__, (ValueError,))

    def test_each_refusal_stands_straight_under_the_base(self):
        for kind in ALL:
            self.assertEqual(kind.__bases__, (JoinError,), kind)

    def test_there_are_eleven_unlike_refusals(self):
        self.assertEqual(len(set(ALL)), 11)

    def test_no_refusal_stands_under_another_one(self):
        for kind in ALL:
            for other in ALL:
                self.assertEqual(issubclass(kind, other), kind is other, (kind, other))

    def test_each_is_raised_and_taken_by_its_base_and_as_value_error(self):
        for kind in ALL:
            for base in (kind, JoinError, ValueError):
                with self.assertRaises(base) as caught:
                    raise made(kind)
                self.assertIs(type(caught.exception), kind)

    def test_none_is_taken_by_another_one(self):
        for kind in ALL:
            others = tuple(other for other in ALL if other is not kind)
            self.assertNotIsInstance(made(kind), others)

    def test_each_has_a_text(self):
        for kind in ALL:
            self.assertIsInstance(str(made(kind)), str)
            self.assertIsInstance(repr(made(kind)), str)


class Fields(unittest.TestCase):
    def test_worded_ones_tell_their_text(self):
        for kind in WORDED:
            self.assertEqual(str(kind("some words")), "some words")

    def test_numbered_ones_keep_their_number(self):
        for kind, field in NUMBERED:
            for number in (0, 1, 11, 131, 10 ** 59, 10 ** 60 - 1):
                kept = getattr(kind(number), field)
                self.assertEqual(kept, number)
                self.assertIs(type(kept), int)

    def test_two_errors_keep_each_its_own_number(self):
        for kind, field in NUMBERED:
            one, other = kind(4), kind(7)
            self.assertEqual((getattr(one, field), getattr(other, field)), (4, 7))

    def test_no_answer_keeps_its_places(self):
        for places in ([], [0], [0, 3, 23], [10 ** 60 - 1]):
            error = NoAnswer(places)
            self.assertEqual(error.places, places)
            self.assertIs(type(error.places), list)


class Copies(unittest.TestCase):
    def test_no_answer_copies_its_list(self):
        places = [0, 3]
        error = NoAnswer(places)
        self.assertIsNot(error.places, places)
        places.append(5)
        places[0] = 9
        self.assertEqual(error.places, [0, 3])

    def test_no_answer_leaves_the_handed_list_as_it_was(self):
        places = [0, 3]
        error = NoAnswer(places)
        error.places.append(5)
        self.assertEqual(places, [0, 3])

    def test_no_answer_keeps_the_handed_list_nowhere_else(self):
        places = [0, 3]
        error = NoAnswer(places)
        before = (str(error), repr(error))
        places.append(5)
        self.assertEqual((str(error), repr(error)), before)
        self.assertFalse(any(kept is places for kept in error.args))

    def test_two_errors_of_one_list_share_nothing(self):
        places = [0, 3]
        one, other = NoAnswer(places), NoAnswer(places)
        one.places.clear()
        self.assertEqual(other.places, [0, 3])


if __name__ == "__main__":
    unittest.main()
