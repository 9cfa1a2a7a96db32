"""The looker of papers [30, 31], and what points 2 and 3 say of it."""

import copy
import itertools
import time
import unittest

from fewjoins.caselook import shown
from fewjoins.cases import tried
from samples import Numbers, nested, odd_things, some_wish

GREAT = 10 ** 60 - 1
ROWS = ("rows",)


def slow_next(known, clean):
    """The next rows of known ones, as point 30 says."""
    pairs = itertools.combinations(known, 2)
    return sorted({one ^ other for one, other in pairs if not (clean and one & other)} - set(known))


def slow_far(known, clean, left, row):
    """Whether a row is no odd sum of few enough known rows, going through all such rows."""
    for size in range(1, min(left + 1, len(known)) + 1):
        for parts in itertools.combinations(known, size):
            total = 0
            apart = True
            for part in parts:
                apart = apart and not total & part
                total ^= part
            if total == row and (apart or not clean):
                return False
    return True


def slow_shown(wish, clean, known, shut, left, paper):
    """Point 30, word by word."""
    if type(paper) is not tuple or not paper or type(paper[0]) is not str:
        return False
    lacking = set(wish[1]) - set(known)
    following = slow_next(known, clean)
    free = [row for row in following if row not in shut]
    if paper[0] == "rows" and len(paper) == 1:
        return len(lacking) > left
    if paper[0] == "far" and len(paper) == 2 and type(paper[1]) is int:
        return paper[1] in lacking and slow_far(known, clean, left, paper[1])
    if paper[0] == "made" and len(paper) == 3 and type(paper[1]) is int:
        if left < 1 or paper[1] not in lacking or paper[1] not in free:
            return False
        return slow_shown(wish, clean, known + [paper[1]], shut, left - 1, paper[2])
    if paper[0] == "next" and len(paper) == 2 and type(paper[1]) is tuple:
        if left < 1 or not lacking or len(paper[1]) != len(free):
            return False
        return all([slow_shown(wish, clean, known + [row], shut + free[:at], left - 1, paper[1][at])
                    for at, row in enumerate(free)])
    return False


def held(wish, clean, count, paper):
    """What the words say, asked from the beginning."""
    return slow_shown(wish, clean, [2 ** given for given in range(wish[0])], [], count, paper)


def drawn_paper(numbers, wish, clean, known, shut, left):
    """A paper for these cases by drawn choices, None where none came."""
    lacking = sorted(set(wish[1]) - set(known))
    far = [row for row in lacking if slow_far(known, clean, left, row)]
    free = [row for row in slow_next(known, clean) if row not in shut]
    made = [row for row in lacking if row in free]
    if not lacking:
        return None
    if left < len(lacking) and (left < 1 or numbers.below(2)):
        return ROWS
    if far and (left < 1 or numbers.below(3)):
        return ("far", far[numbers.below(len(far))])
    if left < 1:
        return None
    if made and numbers.below(3):
        row = made[numbers.below(len(made))]
        paper = drawn_paper(numbers, wish, clean, known + [row], shut, left - 1)
        return paper and ("made", row, paper)
    papers = []
    for at, row in enumerate(free):
        papers.append(drawn_paper(numbers, wish, clean, known + [row], shut + free[:at], left - 1))
        if papers[-1] is None:
            return None
    return ("next", tuple(papers))


def changed(numbers, thing):
    """A copy of a thing in which one thing at some depth is left out, put in, or another one."""
    if not isinstance(thing, tuple) or not thing or numbers.below(6) == 0:
        return other(numbers, thing)
    parts = list(thing)
    at = numbers.below(len(parts))
    deed = numbers.below(8)
    if deed == 0:
        del parts[at]
    elif deed == 1:
        parts.insert(at, parts[numbers.below(len(parts))])
    elif deed == 2:
        parts[at], parts[0] = parts[0], parts[at]
    else:
        parts[at] = changed(numbers, parts[at])
    return tuple(parts)


def other(numbers, thing):
    if isinstance(thing, int):
        return (thing + 1, thing - 1, thing ^ 3, True, str(thing), None, -thing, 15, 7)[numbers.below(9)]
    if isinstance(thing, tuple):
        return (list(thing), (), thing + (ROWS,), thing[:-1], ROWS, ("next", ()), ("next", (thing,)),
                ("far", 7), ("made", 3, thing))[numbers.below(9)]
    return ("rows", "far", "made", "next", "Next", "")[numbers.below(6)]


class Looker(unittest.TestCase):
    def assert_shown(self, wish, count, *papers, clean=(False, True)):
        for paper in papers:
            for kind in clean:
                self.assertIs(shown(wish, kind, count, paper), True, (wish, kind, count, paper))

    def assert_not_shown(self, wish, count, *papers, clean=(False, True)):
        for paper in papers:
            for kind in clean:
                self.assertIs(shown(wish, kind, count, paper), False, (wish, kind, count, paper))


class Rows(Looker):
    def test_more_rows_than_joinings_left(self):
        self.assert_shown((2, (3,)), 0, ROWS)
        self.assert_not_shown((2, (3,)), 1, ROWS)
        self.assert_shown((3, (3, 5, 6)), 2, ROWS)
        self.assert_not_shown((3, (3, 5, 6)), 3, ROWS)

    def test_alike_rows_and_known_ones_do_not_count(self):
        self.assert_not_shown((2, (3, 3)), 1, ROWS)
        self.assert_not_shown((2, (1,)), 0, ROWS)
        self.assert_not_shown((3, (1, 2, 4, 1)), 0, ROWS)
        self.assert_shown((3, (1, 3, 2, 3, 5)), 1, ROWS)
        self.assert_not_shown((3, (1, 3, 2, 3, 5)), 2, ROWS)

    def test_counts_of_0_and_11_and_24_rows(self):
        rows = tuple(row for row in range(4096) if bin(row).count("1") == 2)[:24]
        for count in range(12):
            self.assert_shown((12, rows), count, ROWS)
            self.assert_shown((12, rows[:12]), count, ROWS)
            self.assertIs(shown((12, rows[:11]), False, count, ROWS), count < 11)

    def test_one_given(self):
        for count in range(12):
            self.assert_not_shown((1, (1,)), count, ROWS, ("far", 1), ("made", 1, ROWS), ("next", ()))

    def test_a_part_more_or_another_kind(self):
        self.assert_not_shown((2, (3,)), 0, ("rows", 3), ("rows", ROWS), ["rows"], "rows", ("rows", ()), ("rows", None),
                              ("row",), ("Rows",), ("",), (), (None,), (ROWS,), (("rows",), ROWS))


class Far(Looker):
    def test_too_many_known_rows_are_needed(self):
        for count in range(12):
            self.assertIs(shown((12, (4095,)), False, count, ("far", 4095)), count < 11)
            self.assertIs(shown((12, (4095,)), True, count, ("far", 4095)), count < 11)
        self.assert_shown((3, (7,)), 1, ("far", 7))
        self.assert_not_shown((3, (7,)), 2, ("far", 7))

    def test_no_row_of_the_wish(self):
        self.assert_not_shown((4, (15,)), 1, ("far", 7), ("far", 14), ("far", 0), ("far", 3), ("far", -15),
                              ("far", 16), ("far", 31), ("far", GREAT), ("far", -GREAT))

    def test_a_known_row(self):
        self.assert_not_shown((4, (1, 8, 15)), 0, ("far", 1), ("far", 8))
        self.assert_shown((4, (1, 8, 15)), 0, ("far", 15))

    def test_a_row_that_became_known(self):
        self.assert_not_shown((4, (3, 15)), 2, ("made", 3, ("far", 3)))

    def test_rows_that_are_made_are_known(self):
        self.assert_shown((4, (3, 15)), 1, ("made", 3, ("far", 15)))
        self.assert_shown((4, (3, 15)), 2, ("far", 15))
        self.assert_not_shown((4, (3, 15)), 3, ("far", 15), ("made", 3, ("far", 15)))

    def test_with_taking_out_fewer_parts_do(self):
        # 14 is 15 and 1, but without taking out it takes three parts.
        wish = (4, (3, 7, 15, 14))
        paper = ("made", 3, ("made", 7, ("made", 15, ("far", 14))))
        self.assert_not_shown(wish, 4, paper, clean=(False,))
        self.assert_shown(wish, 4, paper, clean=(True,))
        self.assert_not_shown(wish, 5, paper)

    def test_no_whole_number(self):
        self.assert_not_shown((2, (3,)), 0, ("far", True), ("far", "3"), ("far", None), ("far", (3,)), ("far", [3]),
                              ("far", "far"))
        self.assert_not_shown((1, (1,)), 0, ("far", True))

    def test_a_part_more_or_fewer(self):
        self.assert_not_shown((2, (3,)), 0, ("far",), ("far", 3, 3), ("far", 3, ROWS), ["far", 3], (3, "far"))
        self.assert_shown((2, (3,)), 0, ("far", 3))


class Made(Looker):
    wish = (4, (3, 7, 13))

    def test_right_ones(self):
        self.assert_shown(self.wish, 3, ("made", 3, ("made", 7, ("far", 13))))
        self.assert_shown(self.wish, 2, ("made", 3, ROWS), ("made", 3, ("made", 7, ROWS)), ROWS)
        self.assert_shown((4, (3, 12, 14)), 2, ("made", 12, ("made", 3, ROWS)), ("made", 12, ("made", 14, ROWS)))

    def test_a_count_one_greater(self):
        self.assert_not_shown(self.wish, 4, ("made", 3, ("made", 7, ("far", 13))))
        self.assert_not_shown(self.wish, 3, ("made", 3, ROWS), ("made", 3, ("made", 7, ROWS)))

    def test_no_next_row(self):
        self.assert_not_shown(self.wish, 3, ("made", 7, ROWS), ("made", 13, ROWS), ("made", 7, ("far", 13)))
        self.assert_not_shown(self.wish, 2, ("made", 7, ROWS), ("made", 13, ROWS))

    def test_no_row_of_the_wish(self):
        for row in (0, 5, 6, 12, 15, 16, 19, -3, GREAT, -GREAT):
            self.assert_not_shown(self.wish, 2, ("made", row, ROWS))

    def test_a_known_row(self):
        self.assert_not_shown((4, (1, 3, 5, 6)), 2, ("made", 1, ROWS), ("made", 3, ("made", 3, ROWS)))

    def test_no_joining_left(self):
        self.assert_not_shown((2, (3,)), 0, ("made", 3, ROWS))
        self.assert_not_shown((3, (3, 5)), 0, ("made", 3, ROWS))
        self.assert_not_shown((3, (3, 5, 6)), 1, ("made", 3, ("made", 5, ROWS)))
        self.assert_shown((3, (3, 5, 6)), 1, ("made", 3, ROWS))

    def test_without_taking_out_a_next_row_is_of_two_without_a_given_in_common(self):
        # 14 is 15 and 1, which have a given in common.
        wish = (5, (3, 7, 15, 14, 28))
        paper = ("made", 3, ("made", 7, ("made", 15, ("made", 14, ("far", 28)))))
        self.assert_shown(wish, 4, paper, clean=(False,))
        self.assert_not_shown(wish, 4, paper, clean=(True,))

    def test_a_shut_row(self):
        # In the third case 6 is known, and 3 and 5 are shut.
        wish = (3, (3, 5, 6, 7))
        self.assert_shown(wish, 3, ("next", (ROWS, ROWS, ("made", 7, ROWS))))
        self.assert_not_shown(wish, 3, ("next", (ROWS, ROWS, ("made", 3, ROWS))),
                              ("next", (ROWS, ROWS, ("made", 5, ROWS))))
        self.assert_shown(wish, 3, ("next", (("made", 5, ROWS), ("made", 6, ROWS), ROWS)))
        self.assert_not_shown(wish, 3, ("next", (ROWS, ("made", 3, ROWS), ROWS)))

    def test_rows_stay_shut_when_one_is_made(self):
        wish = (3, (3, 5, 6, 7))
        self.assert_shown(wish, 3, ("next", (ROWS, ROWS, ("made", 7, ("next", ())))))
        self.assert_not_shown(wish, 3, ("next", (ROWS, ROWS, ("made", 7, ("made", 3, ROWS)))),
                              ("next", (ROWS, ROWS, ("made", 7, ("next", (ROWS, ROWS))))))

    def test_none_are_shut_ahead_of_a_made_row(self):
        wish = (3, (3, 5, 6, 7))
        self.assert_shown(wish, 3, ("made", 6, ("made", 3, ROWS)), ("made", 6, ("made", 5, ("made", 3, ROWS))))

    def test_no_whole_number(self):
        wish = (3, (3, 5, 6))
        for row in (True, "3", None, (3,), [3], ROWS):
            self.assert_not_shown(wish, 2, ("made", row, ROWS))

    def test_a_part_more_or_fewer(self):
        wish = (3, (3, 5, 6))
        self.assert_shown(wish, 2, ("made", 3, ROWS))
        self.assert_not_shown(wish, 2, ("made", 3), ("made",), ("made", 3, ROWS, ROWS), ["made", 3, ROWS],
                              ("made", 3, ["rows"]), ("made", 3, "rows"), ("made", ROWS, 3), ("made", 3, (ROWS,)),
                              ("made", 3, None), ("made", 3, ()), ("make", 3, ROWS))


class Next(Looker):
    wish = (3, (7,))

    def test_right_ones(self):
        self.assert_shown(self.wish, 1, ("next", (ROWS, ROWS, ROWS)), ("next", (("far", 7), ROWS, ("far", 7))))
        self.assert_shown((4, (15,)), 1, ("next", (ROWS,) * 6))
        self.assert_shown((4, (15,)), 1, ("next", (("far", 15),) * 6))

    def test_a_next_row_left_out_or_put_in(self):
        for length in (0, 1, 2, 4, 5):
            self.assert_not_shown(self.wish, 1, ("next", (ROWS,) * length))
        for length in (5, 7):
            self.assert_not_shown((4, (15,)), 1, ("next", (ROWS,) * length))

    def test_one_paper_wrong(self):
        for at in range(3):
            papers = [ROWS] * 3
            for wrong in (("far", 3), ("rows", 7), ["rows"], None, (), ("made", 7, ROWS), ("next", ())):
                papers[at] = wrong
                self.assert_not_shown(self.wish, 1, ("next", tuple(papers)))

    def test_papers_in_another_order(self):
        self.assert_shown((4, (3, 12)), 1, ("next", (("far", 12), ROWS, ROWS, ROWS, ROWS, ("far", 3))))
        self.assert_not_shown((4, (3, 12)), 1, ("next", (("far", 3), ROWS, ROWS, ROWS, ROWS, ("far", 12))))
        papers = (("made", 5, ROWS), ("made", 6, ROWS), ("made", 7, ROWS))
        for order in itertools.permutations(papers):
            self.assertIs(shown((3, (3, 5, 6, 7)), False, 3, ("next", order)), order == papers, order)

    def test_shut_rows_have_no_paper(self):
        # In the second case 3 is shut, in the third one 3 and 5 are.
        wish = (3, (3, 5, 6, 7))
        self.assert_shown(wish, 3, ("next", (ROWS, ("next", (ROWS, ROWS)), ("next", (ROWS,)))),
                          ("next", (("next", (ROWS, ROWS, ROWS)), ROWS, ROWS)))
        for wrong in (0, 1, 3):
            self.assert_not_shown(wish, 3, ("next", (ROWS, ("next", (ROWS,) * wrong), ROWS)))
        for wrong in (0, 2, 3):
            self.assert_not_shown(wish, 3, ("next", (ROWS, ROWS, ("next", (ROWS,) * wrong))))
        for wrong in (0, 1, 2, 4):
            self.assert_not_shown(wish, 3, ("next", (("next", (ROWS,) * wrong), ROWS, ROWS)))

    def test_rows_that_were_shut_stay_so(self):
        # Behind 5 and 7 both 3 and 6 are shut; behind 5 and 6 only 3 is.
        wish = (3, (3, 5, 6, 7))
        self.assert_shown(wish, 3, ("next", (ROWS, ("next", (("next", (ROWS,)), ("next", ()))), ROWS)))
        self.assert_not_shown(wish, 3, ("next", (ROWS, ("next", (("next", ()), ("next", ()))), ROWS)),
                              ("next", (ROWS, ("next", (("next", (ROWS,)), ("next", (ROWS,)))), ROWS)))

    def test_all_next_rows_shut(self):
        wish = (3, (3, 5, 6, 7))
        self.assert_shown(wish, 3, ("next", (ROWS, ROWS, ("next", (("next", ()),)))))
        self.assert_not_shown(wish, 3, ("next", (ROWS, ROWS, ("next", (("next", (ROWS,)),)))),
                              ("next", (ROWS, ROWS, ("next", (("next", (ROWS, ROWS)),)))))

    def test_without_taking_out_there_are_fewer_next_rows(self):
        # 14 and 13 are 15 and a given that is in it.
        wish = (4, (3, 7, 15, 9, 10))
        for length in range(10):
            paper = ("made", 3, ("made", 7, ("made", 15, ("next", (ROWS,) * length))))
            self.assertIs(shown(wish, False, 4, paper), length == 8)
            self.assertIs(shown(wish, True, 4, paper), length == 6)

    def test_no_joining_left(self):
        self.assert_not_shown(self.wish, 0, ("next", (ROWS, ROWS, ROWS)), ("next", ()))

    def test_all_rows_of_the_wish_known(self):
        self.assert_not_shown((1, (1,)), 1, ("next", ()))
        self.assert_not_shown((2, (1, 2)), 1, ("next", (ROWS,)), ("next", ()))

    def test_another_kind_of_list(self):
        self.assert_not_shown(self.wish, 1, ("next", [ROWS, ROWS, ROWS]), ["next", (ROWS, ROWS, ROWS)],
                              ("next", "abc"), ("next", 3), ("next", None), ("next", ROWS), ("next", ["rows"]))

    def test_a_part_more_or_fewer(self):
        papers = (ROWS, ROWS, ROWS)
        self.assert_not_shown(self.wish, 1, ("next",), ("next", papers, papers), ("next", papers, 7),
                              ("next", ROWS, ROWS, ROWS), (papers,), ("following", papers), (None, papers))


class Counts(Looker):
    def test_a_paper_holds_for_fewer_joinings_or_none(self):
        self.assert_shown((3, (7,)), 1, ("next", (ROWS,) * 3))
        self.assert_not_shown((3, (7,)), 2, ("next", (ROWS,) * 3))
        self.assert_not_shown((3, (7,)), 0, ("next", (ROWS,) * 3))

    def test_counts_beyond(self):
        for count in (12, 20, GREAT):
            self.assert_not_shown((3, (7, 3)), count, ROWS, ("far", 7), ("made", 3, ROWS), ("next", (ROWS,) * 3))
            self.assert_not_shown((12, (4095,)), count, ROWS, ("far", 4095), ("made", 4095, ROWS))
        self.assert_shown((3, (7, 3)), -1, ROWS, ("far", 7))
        self.assert_not_shown((3, (7, 3)), -1, ("made", 3, ROWS), ("next", (ROWS,) * 3))

    def test_eleven_joinings(self):
        rows = tuple(row for row in range(1, 4096) if bin(row).count("1") == 2)[:12]
        paper = ROWS
        for row in rows[:11]:
            paper = ("made", row, paper)
        self.assert_shown((12, rows), 11, paper)
        self.assert_not_shown((12, rows), 10, paper)
        self.assert_not_shown((12, rows[:11]), 11, paper)


class Anything(Looker):
    def test_odd_things(self):
        for wish in ((1, (1,)), (2, (3,)), (3, (3, 5, 6)), (12, (4095, 1))):
            for count in (0, 2, 11):
                self.assert_not_shown(wish, count, *odd_things())

    def test_odd_things_within(self):
        for thing in odd_things():
            self.assert_not_shown((3, (3, 5, 6)), 2, (thing,), ("rows", thing), ("far", thing), ("made", thing, ROWS),
                                  ("made", 3, thing), ("next", thing), ("next", (thing, ROWS, ROWS)),
                                  ("next", (ROWS, ROWS, thing)), (thing, 3, ROWS), ("next", (ROWS,) * 3, thing))

    def test_a_paper_within_others_is_none(self):
        for depth in (1, 2, 28):
            for kind in (tuple, list):
                self.assert_not_shown((2, (3,)), 0, nested(ROWS, depth, kind), nested(("far", 3), depth, kind))

    def test_deep_papers(self):
        for word in ("next", "made", "far"):
            paper = ROWS
            for depth in range(14):
                paper = ("next", (paper,)) if word == "next" else (word, 3, paper)
            for count in (0, 2, 11):
                self.assert_not_shown((3, (3, 5, 6)), count, paper)

    def test_what_is_handed_in_is_not_changed(self):
        for paper in (["rows"], ("next", [ROWS, ROWS, ROWS]), ("made", [3], ROWS), ("next", (["rows"], ROWS, ROWS))):
            before = copy.deepcopy(paper)
            self.assert_not_shown((3, (3, 5, 6)), 2, paper)
            self.assertEqual(paper, before)


class Held(Looker):
    def test_drawn_papers_held_against_the_words(self):
        numbers = Numbers(71)
        seen = {}
        for turn in range(1500):
            many = 2 + numbers.below(3)
            wish = some_wish(numbers, many, 1 + numbers.below(6))
            clean = numbers.below(2) == 1
            count = numbers.below(6)
            paper = drawn_paper(numbers, wish, clean, [2 ** given for given in range(many)], [], count)
            if paper is None:
                continue
            self.assertIs(held(wish, clean, count, paper), True)
            self.assertIs(shown(wish, clean, count, paper), True)
            for wrong in [changed(numbers, paper) for step in range(8)]:
                for fewer in (count, count - 1, count + 1):
                    told = shown(wish, clean, fewer, wrong)
                    seen[(clean, told)] = seen.get((clean, told), 0) + 1
                    self.assertIs(told, held(wish, clean, fewer, wrong), (wish, clean, fewer, wrong))
                self.assertIs(shown(wish, not clean, count, wrong), held(wish, not clean, count, wrong))
        self.assertGreater(min(seen.values()), 300)
        self.assertEqual(len(seen), 4)

    def test_far_held_against_all_sums(self):
        numbers = Numbers(72)
        for turn in range(60):
            wish = some_wish(numbers, 5 + numbers.below(3), 3)
            for count in range(8):
                for row in wish[1]:
                    for clean in (False, True):
                        paper = ("far", row)
                        self.assertIs(shown(wish, clean, count, paper), held(wish, clean, count, paper))

    def test_no_paper_is_let_by_for_so_many_joinings_as_a_net_has(self):
        numbers = Numbers(73)
        for turn in range(300):
            wish = some_wish(numbers, 3 + numbers.below(2), 1 + numbers.below(4))
            clean = numbers.below(2) == 1
            counts = [count for count in range(12) if tried(wish, clean, count)[0]]
            fewest = counts[0]
            for step in range(10):
                if fewest:
                    paper = tried(wish, clean, fewest - 1)[1]
                    self.assertIs(shown(wish, clean, fewest, changed(numbers, paper)), False)
                    self.assertIs(shown(wish, clean, fewest, paper), False)
                known = [2 ** given for given in range(wish[0])]
                self.assertIsNone(drawn_paper(numbers, wish, clean, known, [], fewest))


class Time(Looker):
    def test_twelve_givens(self):
        start = time.process_time()
        rows = tuple(4095 - 2 ** given for given in range(12)) * 2
        for count in range(12):
            for clean in (False, True):
                for paper in (ROWS, ("far", 4094), ("made", 4094, ROWS), ("next", (ROWS,) * 66)):
                    shown((12, rows), clean, count, paper)
        self.assertLess(time.process_time() - start, 20)

    def test_a_long_paper(self):
        start = time.process_time()
        first = ("next", (("far", 4095),) * 66)
        self.assert_shown((12, (4095,)), 1, first)
        self.assertLess(time.process_time() - start, 20)


if __name__ == "__main__":
    unittest.main()
