"""Nets for any width [35 to 39], and what points 2 and 3 say of them."""

import unittest

from fewjoins.errors import JoinError, NoWidth
from fewjoins.nets import height, is_clean, is_net, made_by
from fewjoins.widths import all_but, all_sums, neighbours, running, running_halves, windows

GREAT = 10 ** 60 - 1


def givens_row(givens):
    return sum(2 ** given for given in givens)


class Widths(unittest.TestCase):
    def assert_makes(self, net, many, rows, joins):
        """It is a net of so many givens and joinings that makes these rows."""
        self.assertIs(is_net(net), True)
        self.assertEqual(net[0], many)
        self.assertEqual(made_by(net), rows)
        self.assertEqual(len(net[1]), joins)

    def assert_refused(self, told, *widths):
        for width in widths:
            with self.assertRaises(NoWidth) as caught:
                told(width)
            self.assertIs(type(caught.exception), NoWidth)
            self.assertIsInstance(caught.exception, JoinError)


class Running(Widths):
    def test_by_hand(self):
        self.assertEqual(running(1), (1, (), (0,)))
        self.assertEqual(running(2), (2, ((0, 1),), (0, 2)))
        self.assertEqual(running(3), (3, ((0, 1), (2, 3)), (0, 3, 4)))
        self.assertEqual(running(5), (5, ((0, 1), (2, 5), (3, 6), (4, 7)), (0, 5, 6, 7, 8)))

    def test_each_width(self):
        for n in range(1, 13):
            net = running(n)
            self.assert_makes(net, n, [2 ** (k + 1) - 1 for k in range(n)], n - 1)
            self.assertEqual(height(net), n - 1)
            self.assertIs(is_clean(net), True)

    def test_refused(self):
        self.assert_refused(running, 0, 13, 14, -1, -12, GREAT, -GREAT)


class RunningHalves(Widths):
    def test_by_hand(self):
        self.assertEqual(running_halves(1), (1, (), (0,)))
        self.assertEqual(running_halves(2), (2, ((0, 1),), (0, 2)))
        self.assertEqual(running_halves(3), (3, ((0, 1), (2, 3)), (0, 3, 4)))
        self.assertEqual(running_halves(4), (4, ((0, 1), (2, 3), (2, 4), (4, 5)), (0, 4, 6, 7)))
        self.assertEqual(running_halves(5), (5, ((0, 1), (2, 5), (3, 4), (3, 6), (6, 7)), (0, 5, 6, 8, 9)))
        self.assertEqual(running_halves(6), (
            6, ((0, 1), (2, 6), (3, 4), (5, 8), (3, 7), (7, 8), (7, 9)), (0, 6, 7, 10, 11, 12)))

    def test_each_width(self):
        joins = {1: 0}
        for n in range(1, 13):
            if n > 1:
                half = (n + 1) // 2
                joins[n] = joins[half] + joins[n - half] + n - half
            net = running_halves(n)
            self.assert_makes(net, n, [2 ** (k + 1) - 1 for k in range(n)], joins[n])
            self.assertIs(is_clean(net), True)

    def test_heights(self):
        heights = [height(running_halves(n)) for n in range(1, 13)]
        self.assertEqual(heights, [0, 1, 2, 2, 3, 3, 3, 3, 4, 4, 4, 4])
        self.assertEqual(heights, [min(h for h in range(9) if 2 ** h >= n) for n in range(1, 13)])

    def test_numbers_of_joinings(self):
        self.assertEqual([len(running_halves(n)[1]) for n in range(1, 13)], [0, 1, 2, 4, 5, 7, 9, 12, 13, 15, 17, 20])

    def test_refused(self):
        self.assert_refused(running_halves, 0, 13, 14, -1, -12, GREAT, -GREAT)


class AllBut(Widths):
    def rows(self, n):
        return [givens_row(given for given in range(n) if given != k) for k in range(n)]

    def test_by_hand_with_taking_out(self):
        self.assertEqual(all_but(2, False), (2, ((0, 1), (0, 2), (1, 2)), (3, 4)))
        self.assertEqual(all_but(3, False), (3, ((0, 1), (2, 3), (0, 4), (1, 4), (2, 4)), (5, 6, 7)))
        self.assertEqual(all_but(4, False), (
            4, ((0, 1), (2, 4), (3, 5), (0, 6), (1, 6), (2, 6), (3, 6)), (7, 8, 9, 10)))

    def test_by_hand_without(self):
        self.assertEqual(all_but(2, True), (2, (), (1, 0)))
        self.assertEqual(all_but(3, True), (3, ((0, 1), (1, 2), (0, 2)), (4, 5, 3)))
        self.assertEqual(all_but(4, True), (4, ((0, 1), (2, 4), (2, 3), (1, 6), (0, 6), (3, 4)), (7, 8, 9, 5)))
        self.assertEqual(all_but(5, True), (
            5, ((0, 1), (2, 5), (3, 6), (3, 4), (2, 8), (1, 9), (0, 9), (5, 8), (4, 6)), (10, 11, 12, 13, 7)))

    def test_each_width_with_taking_out(self):
        for n in range(2, 13):
            net = all_but(n, False)
            self.assert_makes(net, n, self.rows(n), 2 * n - 1)
            self.assertIs(is_clean(net), False)
            self.assertEqual(height(net), n)

    def test_each_width_without(self):
        for n in range(2, 13):
            net = all_but(n, True)
            self.assert_makes(net, n, self.rows(n), 3 * n - 6)
            self.assertIs(is_clean(net), True)

    def test_refused(self):
        for clean in (False, True):
            self.assert_refused(lambda n: all_but(n, clean), 0, 1, 13, 14, -1, -2, GREAT, -GREAT)


class Windows(Widths):
    def test_by_hand(self):
        self.assertEqual(windows(2, 2), (2, ((0, 1),), (2,)))
        self.assertEqual(windows(3, 2), (3, ((0, 1), (2, 3), (0, 4)), (3, 5)))
        self.assertEqual(windows(4, 2), (4, ((0, 1), (2, 4), (3, 5), (0, 5), (4, 6)), (4, 7, 8)))
        self.assertEqual(windows(4, 3), (4, ((0, 1), (2, 4), (3, 5), (0, 6)), (5, 7)))
        self.assertEqual(windows(4, 4), (4, ((0, 1), (2, 4), (3, 5)), (6,)))

    def test_each_width_and_window(self):
        for n in range(2, 13):
            for w in range(2, n + 1):
                net = windows(n, w)
                rows = [givens_row(range(k, k + w)) for k in range(n - w + 1)]
                self.assert_makes(net, n, rows, 2 * n - 1 - w)
                self.assertIs(is_clean(net), w == n)

    def test_refused_widths(self):
        for w in (2, 3, 12):
            self.assert_refused(lambda n: windows(n, w), 0, 1, 13, 14, -1, GREAT, -GREAT)

    def test_refused_windows(self):
        for n in range(2, 13):
            self.assert_refused(lambda w: windows(n, w), 0, 1, n + 1, n + 2, -1, -n, GREAT, -GREAT)

    def test_both_refused(self):
        self.assert_refused(lambda w: windows(1, w), 0, 1, 2)
        self.assert_refused(lambda w: windows(13, w), 1, 2, 13, 14)


class Neighbours(Widths):
    def test_by_hand(self):
        self.assertEqual(neighbours(2), (2, ((0, 1),), (2,)))
        self.assertEqual(neighbours(4), (4, ((0, 1), (1, 2), (2, 3)), (4, 5, 6)))

    def test_each_width(self):
        for n in range(2, 13):
            net = neighbours(n)
            self.assert_makes(net, n, [3 * 2 ** k for k in range(n - 1)], n - 1)
            self.assertEqual(height(net), 1)
            self.assertIs(is_clean(net), True)

    def test_refused(self):
        self.assert_refused(neighbours, 0, 1, 13, 14, -1, -2, GREAT, -GREAT)


class AllSums(Widths):
    def test_by_hand(self):
        self.assertEqual(all_sums(1), (1, (), (0,)))
        self.assertEqual(all_sums(2), (2, ((0, 1),), (0, 1, 2)))
        self.assertEqual(all_sums(3), (3, ((0, 1), (0, 2), (1, 2), (2, 3)), (0, 1, 3, 2, 4, 5, 6)))
        self.assertEqual(all_sums(4)[1], (
            (0, 1), (0, 2), (1, 2), (2, 4), (0, 3), (1, 3), (3, 4), (2, 3), (3, 5), (3, 6), (3, 7)))

    def test_each_width(self):
        for n in range(1, 5):
            net = all_sums(n)
            self.assert_makes(net, n, list(range(1, 2 ** n)), 2 ** n - 1 - n)
            self.assertEqual(height(net), n - 1)
            self.assertIs(is_clean(net), True)

    def test_refused(self):
        self.assert_refused(all_sums, 0, 5, 6, 12, 13, -1, -4, GREAT, -GREAT)


class Asked(Widths):
    def test_asked_again_the_same_is_told(self):
        for told in (running, running_halves, neighbours):
            for n in range(2, 13):
                self.assertEqual(told(n), told(n))
        self.assert_refused(running, 13)
        self.assertEqual(all_but(12, True), all_but(12, True))
        self.assertEqual(windows(12, 5), windows(12, 5))
        self.assertEqual(all_sums(4), all_sums(4))

    def test_kinds(self):
        nets = [running(3), running_halves(4), all_but(3, False), all_but(3, True), windows(4, 2), neighbours(3),
                all_sums(3)]
        for many, joins, outs in nets:
            self.assertEqual([type(many), type(joins), type(outs), type(joins[0])], [int, tuple, tuple, tuple])


if __name__ == "__main__":
    unittest.main()
