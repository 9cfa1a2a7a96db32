"""The promise over the whole program [3], on drawn wishes and nets."""

import unittest

from fewjoins.better import bettered
from fewjoins.boundlook import bound_shown
from fewjoins.bounds import bound
from fewjoins.caselook import shown
from fewjoins.cases import least
from fewjoins.desk import Desk
from fewjoins.errors import Bare, JoinError, Loose, NoFit, Nought, TooMany
from fewjoins.judged import first_fault, is_wish
from fewjoins.likeness import likeness_net
from fewjoins.nets import height, is_clean, is_net, made_by, words_of
from fewjoins.pairs import pairs_net
from fewjoins.places import net_of_steps, placed
from fewjoins.plain import plain_net
from fewjoins.rows import tells
from fewjoins.texts import net_text, read_net, read_wish, wish_text
from fewjoins.tidy import tidied
from fewjoins.together import behind, beside, laned
from fewjoins.turning import turned_net, turned_wish
from fewjoins.widths import all_but, all_sums, neighbours, running, running_halves, windows
from samples import Numbers, some_net, some_wish


def drawn_wishes(start, count, most):
    numbers = Numbers(start)
    return [some_wish(numbers, 1 + numbers.below(most), 1 + numbers.below(5)) for turn in range(count)]


def drawn_nets(start, count, most):
    numbers = Numbers(start)
    return [some_net(numbers, 1 + numbers.below(most), numbers.below(10),
                     1 + numbers.below(4)) for turn in range(count)]


def asked_of(net, wish):
    """Whether a net makes a wish, asked at every setting; else the least setting and place at which it fails."""
    many, rows = wish
    for setting in range(2 ** many):
        words = words_of(net, [setting >> given & 1 for given in range(many)])
        for place, row in enumerate(rows):
            if words[place] != tells(row, setting):
                return (setting, place)
    return None


def ways(wish):
    """The nets of all told ways, by their names."""
    return {"plain": plain_net(wish), "pairs": pairs_net(wish), "likeness": likeness_net(wish)}


def own_wish(net):
    return (net[0], tuple(made_by(net)))


class Wishes(unittest.TestCase):
    def test_the_looker_is_right_at_every_setting(self):
        numbers = Numbers(131)
        for net in drawn_nets(132, 150, 6):
            right = own_wish(net)
            wrong = some_wish(numbers, net[0], len(net[2]))
            for wish in (right, wrong):
                self.assertEqual(first_fault(net, wish), asked_of(net, wish))

    def test_each_told_way_makes_what_is_wished(self):
        for wish in drawn_wishes(133, 150, 8):
            told = ways(wish)
            for net in told.values():
                self.assertIs(is_net(net), True)
                self.assertIsNone(asked_of(net, wish))
            self.assertLessEqual(len(told["pairs"][1]), len(told["plain"][1]))
            self.assertLessEqual(len(told["likeness"][1]), len(told["plain"][1]))
            self.assertIs(is_clean(told["pairs"]), True)

    def test_bounds_are_no_greater_than_the_joinings_of_any_net(self):
        for wish in drawn_wishes(134, 150, 8):
            number, paper = bound(wish)
            for net in ways(wish).values():
                for told in (net, tidied(net), bettered(net) if len(net[1]) <= 24 else net):
                    self.assertIsNone(first_fault(told, wish))
                    self.assertLessEqual(number, len(told[1]))
                    self.assertIs(bound_shown(wish, len(told[1]) + 1, paper), False)

    def test_the_least_net(self):
        for wish in drawn_wishes(135, 150, 4):
            fewest = {}
            for clean in (False, True):
                net, paper = least(wish, clean)
                fewest[clean] = len(net[1])
                self.assertIsNone(asked_of(net, wish))
                if not clean:
                    self.assertEqual(bettered(net), net)
                if fewest[clean]:
                    self.assertIs(shown(wish, clean, fewest[clean] - 1, paper), True)
                    self.assertIs(shown(wish, clean, fewest[clean], paper), False)
                else:
                    self.assertIsNone(paper)
            self.assertLessEqual(fewest[False], fewest[True])
            self.assertLessEqual(bound(wish)[0], fewest[False])
            for net in ways(wish).values():
                self.assertLessEqual(fewest[is_clean(net)], len(net[1]))
                self.assertLessEqual(fewest[False], len(bettered(net)[1]))

    def test_a_paper_that_is_let_by_rules_out_what_is_made(self):
        for wish in drawn_wishes(136, 100, 4):
            papers = [least(wish, clean)[1] for clean in (False, True)]
            for net in ways(wish).values():
                for paper in papers + [("rows",)] + [("far", row) for row in wish[1]]:
                    for count in range(len(net[1]), 12):
                        self.assertIs(shown(wish, False, count, paper), False)
                        if is_clean(net):
                            self.assertIs(shown(wish, True, count, paper), False)

    def test_turned_about(self):
        seen = 0
        for wish in drawn_wishes(137, 300, 4):
            if len(wish[1]) > 4:
                continue
            try:
                turned = turned_wish(wish)
            except Bare:
                continue
            seen += 1
            self.assertIs(is_wish(turned), True)
            self.assertEqual(turned_wish(turned), wish)
            for clean in (False, True):
                fewest = len(least(wish, clean)[0][1])
                self.assertEqual(len(least(turned, clean)[0][1]), fewest + len(wish[1]) - wish[0])
        self.assertGreater(seen, 50)

    def test_made_in_place(self):
        seen = 0
        for wish in drawn_wishes(138, 400, 4):
            try:
                steps, cells = placed(wish)
            except JoinError:
                continue
            seen += 1
            made = made_by(net_of_steps(wish[0], steps))
            self.assertEqual(tuple(made[cell] for cell in cells), wish[1])
        self.assertGreater(seen, 20)


class Nets(unittest.TestCase):
    def test_tidied_and_bettered(self):
        for net in drawn_nets(141, 200, 6):
            for told in (tidied(net), bettered(net)):
                self.assertIs(is_net(told), True)
                self.assertIsNone(asked_of(told, own_wish(net)))
                self.assertLessEqual(len(told[1]), len(net[1]))
            self.assertLessEqual(len(bettered(net)[1]), len(tidied(net)[1]))

    def test_beside(self):
        nets = drawn_nets(142, 100, 5)
        for net, other in zip(nets, nets[1:]):
            rows = made_by(net) + [row * 2 ** net[0] for row in made_by(other)]
            told = beside(net, other)
            self.assertIsNone(asked_of(told, (net[0] + other[0], tuple(rows))))
            self.assertEqual(len(told[1]), len(net[1]) + len(other[1]))

    def test_behind(self):
        nets = drawn_nets(143, 60, 4)
        seen = 0
        for net in nets:
            for other in nets:
                try:
                    told = behind(net, other)
                except NoFit:
                    self.assertNotEqual(len(net[2]), other[0])
                    continue
                except Nought:
                    continue
                seen += 1
                self.assertEqual(made_by(told), words_of(other, made_by(net)))
                self.assertIs(is_net(told), True)
                self.assertEqual(len(told[1]), len(net[1]) + len(other[1]))
        self.assertGreater(seen, 200)

    def test_lanes(self):
        for net in drawn_nets(144, 60, 4):
            for lanes in (1, 2, 3):
                told = laned(net, lanes)
                for lane in range(lanes):
                    words = [given // lanes + 1 if given % lanes == lane else 0 for given in range(net[0] * lanes)]
                    due = words_of(net, [given + 1 for given in range(net[0])])
                    self.assertEqual(words_of(told, words)[lane::lanes], due)

    def test_turned_about(self):
        seen = 0
        for net in drawn_nets(145, 400, 4):
            try:
                told = turned_net(net)
            except (Loose, Nought, TooMany):
                continue
            seen += 1
            self.assertIsNone(asked_of(told, turned_wish(own_wish(net))))
            self.assertEqual(len(told[1]), len(net[1]) + len(net[2]) - net[0])
        self.assertGreater(seen, 40)

    def test_texts(self):
        for net in drawn_nets(146, 100, 12):
            self.assertEqual(read_net(net_text(net)), net)
            self.assertEqual(read_wish(wish_text(own_wish(net))), own_wish(net))


class AnyWidth(unittest.TestCase):
    def nets(self, n):
        """Nets of a width, with the joinings and, where told, the height of their rules."""
        told = [(running(n), n - 1, n - 1), (running_halves(n), None, (n - 1).bit_length())]
        if n > 1:
            told += [(all_but(n, False), 2 * n - 1, None), (all_but(n, True), 3 * n - 6, None),
                     (neighbours(n), n - 1, 1)]
            told += [(windows(n, w), 2 * n - 1 - w, None) for w in range(2, n + 1)]
        if n < 5:
            told.append((all_sums(n), 2 ** n - 1 - n, None))
        return told

    def test_as_many_joinings_and_as_high_as_their_rules_tell(self):
        for n in range(1, 13):
            for net, joins, high in self.nets(n):
                self.assertIs(is_net(net), True)
                self.assertIn(joins, (None, len(net[1])))
                self.assertIn(high, (None, height(net)))

    def test_bounded_and_tidied(self):
        for n in range(1, 13):
            for net, joins, high in self.nets(n):
                wish = own_wish(net)
                self.assertLessEqual(bound(wish)[0], len(net[1]))
                self.assertEqual(made_by(tidied(net)), made_by(net))
                if n <= 4:
                    fewest = len(least(wish, is_clean(net))[0][1])
                    self.assertLessEqual(fewest, len(net[1]))


class AtADesk(unittest.TestCase):
    def test_a_wish_all_the_way(self):
        for wish in drawn_wishes(151, 60, 4):
            desk = Desk()
            self.assertEqual(desk.say("wish w\n" + wish_text(wish)), "ok")
            joins = {word: int(desk.say(f"way {word} w {word}")) for word in ("plain", "pairs", "likeness")}
            for word in ("any", "clean"):
                joins[word] = int(desk.say(f"least {word} w {word}"))
                self.assertEqual(desk.say(f"few {word} {joins[word]} w"), "yes")
                if joins[word]:
                    self.assertEqual(desk.say(f"few {word} {joins[word] - 1} w"), "no")
            for word in joins:
                self.assertEqual(desk.say(f"judge {word} w"), "yes")
                better = int(desk.say("better " + word))
                self.assertEqual(desk.say(f"judge {word} w"), "yes")
                self.assertLessEqual(int(desk.say("bound w")), joins["any"])
                self.assertLessEqual(joins["any"], better)
                self.assertLessEqual(better, joins[word])


if __name__ == "__main__":
    unittest.main()
