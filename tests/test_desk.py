"""A desk [42, 43], and what point 2 says of it."""

import unittest

from fewjoins.better import bettered
from fewjoins.bounds import bound
from fewjoins.cases import least, tried
from fewjoins.desk import Desk
from fewjoins.errors import JoinError, Loose, NoFit, NoName, NoRow, NoText, Nought, TooMany
from fewjoins.judged import first_fault
from fewjoins.likeness import likeness_net
from fewjoins.nets import made_by
from fewjoins.pairs import pairs_net
from fewjoins.plain import plain_net
from fewjoins.texts import net_text, read_net, wish_text
from fewjoins.tidy import tidied
from fewjoins.together import behind, beside
from fewjoins.turning import turned_net
from fewjoins.widths import running, windows
from samples import Numbers, long_net, odd_things, some_net, some_wish

PAIR = (2, ((0, 1),), (2,))
TWICE = (3, ((0, 1), (2, 3), (0, 1)), (4, 5))
WISH = (3, (7, 3))


def desk_with(nets, wishes):
    """A desk by whose names these nets and wishes stand."""
    desk = Desk()
    for name, net in nets.items():
        assert desk.say(f"net {name}\n{net_text(net)}") == "ok"
    for name, wish in wishes.items():
        assert desk.say(f"wish {name}\n{wish_text(wish)}") == "ok"
    return desk


def kept(desk):
    """All that a desk keeps, as far as it tells it."""
    names = desk.say("names")
    return (names, [desk.say("show " + name) for name in names.split("; ") if name != "none"])


class AtTheDesk(unittest.TestCase):
    def desk(self):
        return desk_with({"a": TWICE, "pair": PAIR, "b": running(3)}, {"a": WISH, "w": (4, (15, 7, 8))})

    def assert_refused(self, desk, kind, *rows):
        """Each row is refused with this error, and changes nothing."""
        for row in rows:
            before = kept(desk)
            with self.assertRaises(JoinError, msg=repr(row)) as caught:
                desk.say(row)
            self.assertIs(type(caught.exception), kind, repr(row))
            self.assertEqual(kept(desk), before)

    def assert_net(self, desk, name, net):
        self.assertEqual(desk.say("show net " + name), net_text(net))


class Kept(AtTheDesk):
    def test_a_new_desk_keeps_nothing(self):
        self.assertEqual(Desk().say("names"), "none")

    def test_kept_and_shown(self):
        desk = Desk()
        self.assertEqual(desk.say("net a\nnet 1\nout 0"), "ok")
        self.assertEqual(desk.say("show net a"), "net 1\nout 0")
        self.assertEqual(desk.say("wish b\nwish 2\nrow 0 1\nrow 1"), "ok")
        self.assertEqual(desk.say("show wish b"), "wish 2\nrow 0 1\nrow 1")

    def test_in_the_place_of_one_that_stood(self):
        desk = self.desk()
        self.assertEqual(desk.say("net a\n" + net_text(PAIR)), "ok")
        self.assert_net(desk, "a", PAIR)
        self.assertEqual(desk.say("wish a\nwish 1\nrow 0"), "ok")
        self.assertEqual(desk.say("show wish a"), "wish 1\nrow 0")
        self.assertEqual(desk.say("names"), "net a; net b; net pair; wish a; wish w")

    def test_a_net_and_a_wish_by_the_same_name(self):
        desk = self.desk()
        self.assertEqual(desk.say("show net a"), net_text(TWICE))
        self.assertEqual(desk.say("show wish a"), wish_text(WISH))
        self.assertEqual(desk.say("judge a a"), "yes")
        self.assertEqual(desk.say("drop net a"), "ok")
        self.assertEqual(desk.say("show wish a"), wish_text(WISH))
        self.assert_refused(desk, NoName, "show net a", "judge a a")

    def test_names_are_sorted_nets_first(self):
        desk = Desk()
        self.assertEqual(desk.say("wish a\nwish 1\nrow 0"), "ok")
        self.assertEqual(desk.say("names"), "wish a")
        for name in ("z", "b", "ba", "aaaaaaaa", "abcdefgh"):
            desk.say(f"net {name}\nnet 1\nout 0")
        for name in ("zz", "b"):
            desk.say(f"wish {name}\nwish 1\nrow 0")
        self.assertEqual(desk.say("names"), "net aaaaaaaa; net abcdefgh; net b; net ba; net z; wish a; wish b; wish zz")

    def test_dropped(self):
        desk = self.desk()
        self.assertEqual(desk.say("drop net pair"), "ok")
        self.assertEqual(desk.say("drop wish w"), "ok")
        self.assertEqual(desk.say("names"), "net a; net b; wish a")
        self.assert_refused(desk, NoName, "drop net pair", "drop wish w", "show net pair", "show wish w", "drop net w",
                            "drop wish b")
        for row in ("drop net a", "drop net b", "drop wish a"):
            self.assertEqual(desk.say(row), "ok")
        self.assertEqual(desk.say("names"), "none")

    def test_two_desks_beside_one_another(self):
        one, other = self.desk(), Desk()
        self.assertEqual(other.say("names"), "none")
        other.say("net a\nnet 1\nout 0")
        self.assert_net(one, "a", TWICE)
        one.say("drop net a")
        self.assert_net(other, "a", (1, (), (0,)))
        self.assertEqual(other.say("names"), "net a")

    def test_names_of_one_eight_and_nine_letters(self):
        desk = Desk()
        for name in ("a", "z", "abcdefgh", "zzzzzzzz", "net", "wish", "names", "any", "show", "plain"):
            self.assertEqual(desk.say(f"net {name}\nnet 1\nout 0"), "ok")
            self.assertEqual(desk.say(f"wish {name}\nwish 1\nrow 0"), "ok")
            self.assertEqual(desk.say(f"show net {name}"), "net 1\nout 0")
            self.assertEqual(desk.say(f"judge {name} {name}"), "yes")
        self.assert_refused(desk, NoName, "net abcdefghi\nnet 1\nout 0", "wish abcdefghi\nwish 1\nrow 0")

    def test_what_is_no_name(self):
        desk = self.desk()
        for name in ("", "A", "aB", "a1", "1", "a-b", "a_", "a.", "\xe4", "\xdf", "\u0430", "a\t", "\ta", "a\r", "\xb5",
                     "\uff41", "\xaa", "a\x00", "abcdefghi", "a;", "None", "a" * 5000, "\ud800", "0", "a,b"):
            self.assert_refused(desk, NoName, f"net {name}\nnet 1\nout 0", f"wish {name}\nwish 1\nrow 0",
                                f"show net {name}", f"show wish {name}", f"drop net {name}", f"drop wish {name}",
                                f"judge {name} a", f"judge a {name}", f"way plain {name} c", f"way pairs a {name}",
                                f"least any {name} c", f"least clean a {name}", f"bound {name}", f"few any 1 {name}",
                                f"tidy {name}", f"better {name}", f"turn {name} c", f"turn a {name}",
                                f"behind {name} pair c", f"behind a {name} c", f"behind a pair {name}",
                                f"beside {name} pair c", f"beside a {name} c", f"beside a pair {name}")


class Answers(AtTheDesk):
    def test_judge(self):
        desk = desk_with({"a": (3, ((0, 1), (2, 3)), (4, 3))}, {"y": (3, (7, 3)), "s": (3, (6, 3)), "p": (3, (7, 1)),
                                                                 "few": (3, (7,)), "great": (4, (7, 3))})
        self.assertEqual(desk.say("judge a y"), "yes")
        self.assertEqual(desk.say("judge a s"), "1 0")
        self.assertEqual(desk.say("judge a p"), "2 1")
        self.assert_refused(desk, NoFit, "judge a few", "judge a great")

    def test_ways(self):
        wish = (5, (15, 30, 7))
        desk = desk_with({}, {"w": wish})
        for word, told in (("plain", plain_net), ("pairs", pairs_net), ("likeness", likeness_net)):
            self.assertEqual(desk.say(f"way {word} w {word}"), str(len(told(wish)[1])))
            self.assert_net(desk, word, told(wish))
        self.assertEqual(desk.say("names"), "net likeness; net pairs; net plain; wish w")
        self.assertEqual(desk.say("way pairs w plain"), str(len(pairs_net(wish)[1])))
        self.assert_net(desk, "plain", pairs_net(wish))

    def test_least(self):
        wish = (4, (3, 7, 15, 14))
        desk = desk_with({}, {"w": wish, "five": (5, (3,))})
        self.assertEqual(desk.say("least any w any"), "4")
        self.assertEqual(desk.say("least clean w clean"), "5")
        self.assert_net(desk, "any", least(wish, False)[0])
        self.assert_net(desk, "clean", least(wish, True)[0])
        self.assert_refused(desk, TooMany, "least any five c", "least clean five any")

    def test_bound(self):
        for wish in ((3, (3, 5, 6)), (4, (3, 14)), (1, (1,)), (12, (4095,) * 24)):
            self.assertEqual(desk_with({}, {"w": wish}).say("bound w"), str(bound(wish)[0]))

    def test_few(self):
        desk = desk_with({}, {"w": (4, (3, 7, 15, 14)), "five": (5, (15,)), "six": (6, (31,)), "seven": (7, (1,))})
        self.assertEqual([desk.say(f"few any {count} w") for count in range(12)], ["no"] * 4 + ["yes"] * 8)
        self.assertEqual([desk.say(f"few clean {count} w") for count in range(12)], ["no"] * 5 + ["yes"] * 7)
        self.assertEqual([desk.say(f"few any {count} five") for count in range(4)], ["no", "no", "no", "yes"])
        self.assertEqual([desk.say(f"few clean {count} six") for count in range(4)], ["no"] * 4)
        self.assert_refused(desk, TooMany, "few any 4 five", "few clean 11 six", "few any 0 seven", "few any 11 seven")

    def test_few_with_what_is_no_such_number(self):
        desk = self.desk()
        for word in ("12", "13", "-1", "00", "01", "011", "1.", "+1", "", "a", "\u0661", "\xb2", "1\r", "111",
                     "9" * 5000,
                     "0" * 5000, "None", "1_0", "0x1"):
            self.assert_refused(desk, NoRow, f"few any {word} w", f"few clean {word} w", f"few any {word} A")

    def test_tidy_and_better(self):
        net = (3, ((0, 1), (1, 2), (2, 3), (0, 1)), (4, 5))
        desk = desk_with({"a": net, "b": net, "long": long_net(3, 25, 1)}, {})
        self.assertEqual(desk.say("tidy a"), "3")
        self.assert_net(desk, "a", tidied(net))
        self.assertEqual(desk.say("better b"), "2")
        self.assert_net(desk, "b", bettered(net))
        self.assert_refused(desk, TooMany, "better long")
        self.assertEqual(desk.say("tidy long"), str(len(tidied(long_net(3, 25, 1))[1])))
        self.assertEqual(desk.say("names"), "net a; net b; net long")

    def test_turn(self):
        desk = self.desk()
        self.assertEqual(desk.say("turn a t"), "2")
        self.assert_net(desk, "t", turned_net(TWICE))
        self.assert_net(desk, "a", TWICE)
        self.assertEqual(desk.say("turn a a"), "2")
        self.assert_net(desk, "a", turned_net(TWICE))

    def test_turn_refused(self):
        desk = desk_with({"many": (2, (), (0, 1) * 7), "loose": (2, (), (0,)), "nought": (2, ((0, 1), (1, 2)), (3,))},
                         {})
        self.assert_refused(desk, TooMany, "turn many t")
        self.assert_refused(desk, Loose, "turn loose t")
        self.assert_refused(desk, Nought, "turn nought t", "turn nought nought")

    def test_behind_and_beside(self):
        desk = self.desk()
        self.assertEqual(desk.say("behind a pair c"), "4")
        self.assert_net(desk, "c", behind(TWICE, PAIR))
        self.assertEqual(desk.say("beside a pair d"), "4")
        self.assert_net(desk, "d", beside(TWICE, PAIR))
        self.assertEqual(desk.say("beside pair a d"), "4")
        self.assert_net(desk, "d", beside(PAIR, TWICE))
        self.assertEqual(desk.say("beside pair pair pair"), "2")
        self.assert_net(desk, "pair", beside(PAIR, PAIR))

    def test_behind_and_beside_refused(self):
        desk = self.desk()
        desk.say("net same\nnet 1\nout 0\nout 0")
        desk.say("net great\n" + net_text(long_net(12, 132, 2)))
        self.assert_refused(desk, NoFit, "behind pair a c", "behind b pair c", "behind a b c")
        self.assert_refused(desk, TooMany, "beside great pair c", "behind great pair c", "beside a great b")
        self.assert_refused(desk, Nought, "behind same pair c")
        with self.assertRaises(Nought) as caught:
            desk.say("behind same pair a")
        self.assertEqual(caught.exception.at, 0)

    def test_answers_are_texts(self):
        desk = self.desk()
        for row in ("names", "show net a", "judge a a", "way plain w c", "least any w c", "bound w", "few any 1 w",
                    "tidy a", "better a", "turn a t", "beside a a c", "behind a pair c", "drop net a",
                    "wish x\nwish 1\nrow 0"):
            self.assertIs(type(desk.say(row)), str, row)

    def test_drawn_ones_held_against_the_stages(self):
        numbers = Numbers(121)
        for turn in range(60):
            net = some_net(numbers, 3, 1 + numbers.below(6), 2)
            wish = some_wish(numbers, 3, 2)
            desk = desk_with({"n": net}, {"w": wish, "own": (3, tuple(made_by(net)))})
            fault = first_fault(net, wish)
            self.assertEqual(desk.say("judge n w"), "yes" if fault is None else f"{fault[0]} {fault[1]}")
            self.assertEqual(desk.say("judge n own"), "yes")
            count = numbers.below(5)
            found = tried(wish, True, count)[0]
            self.assertEqual(desk.say(f"few clean {count} w"), "yes" if found else "no")
            self.assertEqual(desk.say("better n"), str(len(bettered(net)[1])))
            self.assertEqual(desk.say("judge n own"), "yes")
            self.assertEqual(desk.say("least clean w l"), str(len(least(wish, True)[0][1])))
            self.assertEqual(desk.say("judge l w"), "yes")


class NoRows(AtTheDesk):
    right = ("names", "show net a", "show wish a", "judge a a", "way plain w c", "way pairs w c", "way likeness w c",
             "least any w c", "least clean w c", "bound w", "few any 1 w", "few clean 1 w", "tidy a", "better a",
             "turn a c",
             "behind a pair c", "beside a pair c", "drop net a", "drop wish a")

    def test_these_are_right(self):
        for row in self.right:
            self.assertIs(type(self.desk().say(row)), str)

    def test_a_word_missing_or_one_more(self):
        for row in self.right:
            words = row.split(" ")
            desk = self.desk()
            self.assert_refused(desk, NoRow, row + " a", row + " ", " " + row, "a " + row, " ".join(words[:-1]))
            for at in range(len(words)):
                self.assert_refused(desk, NoRow, " ".join(words[:at] + words[at + 1:]))
                self.assert_refused(desk, NoRow, " ".join(words[:at] + [""] + words[at:]))

    def test_another_first_word(self):
        for row in self.right:
            for first in ("", "Names", "lists", "NAMES", "net", "wish", "net NEW", "DROP", "judges", "\ufeffnames"):
                self.assert_refused(self.desk(), NoRow, " ".join([first] + row.split(" ")[1:]))

    def test_another_word_of_choice(self):
        self.assert_refused(self.desk(), NoRow, "show nets a", "show all a", "show  a", "show NET a", "show a net",
                            "drop nets a", "drop a net", "drop  a", "drop WISH a", "way least w c", "way Plain w c",
                            "way  w c", "way any w c", "least all w c", "least plain w c", "least  w c",
                            "least w any c",
                            "few all 1 w", "few  1 w", "few 1 any w", "few plain 1 w", "few any w 1", "few any N w",
                            "way WORD w c", "show net", "show wish", "drop net", "drop wish", "way plain", "names a")

    def test_a_line_feed_elsewhere(self):
        for row in self.right:
            self.assert_refused(self.desk(), NoRow, row + "\n", "\n" + row, row + "\n" + row,
                                row.replace(" ", "\n") + "\n",
                                row + "\nnet 1\nout 0")
        self.assert_refused(self.desk(), NoRow, "net\na\nnet 1\nout 0", "net\n a\nnet 1\nout 0",
                            "\nnet a\nnet 1\nout 0",
                            "show\nnet a", "names\n", "judge a\na", "show net\na", "judge\na a", "judge\na", "turn\na",
                            "way plain\nw", "show net\n", "drop\nnet a", "beside a\na", "behind a a\nc", "net\nTEXT")

    def test_texts_without_a_line_feed(self):
        self.assert_refused(self.desk(), NoRow, "net a", "wish a", "net", "wish", "net A", "wish ", "net a net 1",
                            "net a\rnet 1\rout 0", "wish a\\nwish 1\\nrow 0", "net a \\n TEXT")

    def test_texts_with_a_word_more_or_fewer(self):
        self.assert_refused(self.desk(), NoRow, "net\nnet 1\nout 0", "net a b\nnet 1\nout 0", "net a \nnet 1\nout 0",
                            " net a\nnet 1\nout 0", "net  a\nnet 1\nout 0", "wish\nwish 1\nrow 0",
                            "wish a a\nwish 1\nrow 0",
                            "Net a\nnet 1\nout 0", "nets a\nnet 1\nout 0", "\nnet 1\nout 0", "\n", "a\n",
                            "net a  \n TEXT")

    def test_odd_rows(self):
        self.assert_refused(self.desk(), NoRow, "", " ", "  ", "\t", "\r", "names\t", "\x00", "\ud800", "ok", "none",
                            "yes")

    def test_what_is_no_text(self):
        things = [thing for thing in odd_things() if not isinstance(thing, str)]
        self.assert_refused(self.desk(), NoRow, b"names", ["names"], ("show", "net", "a"), 1, *things)

    def test_odd_texts(self):
        for thing in odd_things():
            if isinstance(thing, str):
                self.assert_refused(self.desk(), NoRow, thing)


class NoNames(AtTheDesk):
    def test_nothing_stands_there(self):
        desk = self.desk()
        self.assert_refused(desk, NoName, "show net c", "show wish c", "show net w", "show wish pair", "judge c a",
                            "judge a c", "judge w a", "judge a pair", "way plain pair c", "way pairs c c",
                            "least any b c",
                            "least clean c c", "bound pair", "bound c", "few any 1 b", "few clean 11 c", "tidy w",
                            "better w", "better c", "turn w c", "turn c c", "behind c a d", "behind a c d",
                            "behind w a d",
                            "beside a w d", "beside c c c", "drop net w", "drop wish pair", "drop net c")

    def test_the_new_one_need_not_stand(self):
        desk = self.desk()
        self.assertEqual(desk.say("way plain a new"), "3")
        self.assertEqual(desk.say("turn a other"), "2")
        self.assert_net(desk, "new", plain_net(WISH))


class Order(AtTheDesk):
    def test_no_row_goes_ahead_of_no_name(self):
        self.assert_refused(self.desk(), NoRow, "show A B", "judge A", "way other A B", "few any 12 A", "few some 1 A",
                            "names A", "net A B\nx", "net A", "least some A B", "tidy A B", "drop A B")

    def test_no_name_goes_ahead_of_what_the_stages_tell(self):
        desk = self.desk()
        desk.say("net great\n" + net_text(long_net(12, 132, 2)))
        desk.say("wish five\nwish 5\nrow 0")
        self.assert_refused(desk, NoName, "net A\n", "net A\nnet 1", "wish A\nnothing", "net abcdefghi\nnet 0\nout 0",
                            "judge a c", "least any five C", "few any 11 five1", "better A", "turn great A",
                            "behind pair a A",
                            "beside great great A", "behind b pair C")
        self.assert_refused(desk, TooMany, "least any five c", "few any 11 five", "better great",
                            "beside great great a")
        self.assert_refused(desk, NoFit, "behind pair a a", "behind b pair c", "judge pair a")

    def test_texts_that_are_none(self):
        desk = self.desk()
        for row, field in (("net a\n", 0), ("net a\nnet 1", 1), ("net a\nnet 1\nout 1", 1),
                           ("net a\nnet 1\nout 0\n", 2),
                           ("net c\nwish 1\nrow 0", 0), ("wish a\n", 0), ("wish a\nwish 1", 1),
                           ("wish c\nwish 1\nrow 1", 1),
                           ("wish a\nwish 1\nrow 0\n", 2), ("net a\n\nnet 1\nout 0", 0), ("wish c\nnet 1\nout 0", 0)):
            self.assert_refused(desk, NoText, row)
            with self.assertRaises(NoText) as caught:
                desk.say(row)
            self.assertEqual(caught.exception.row, field, row)

    def test_the_fields_of_other_refusals(self):
        desk = desk_with({"loose": (3, ((0, 1),), (2, 0)), "nought": (2, ((0, 1), (1, 2)), (3,))}, {})
        with self.assertRaises(Loose) as caught:
            desk.say("turn loose t")
        self.assertEqual(caught.exception.thing, 3)
        with self.assertRaises(Nought) as caught:
            desk.say("turn nought t")
        self.assertEqual(caught.exception.at, 1)


class Own(AtTheDesk):
    def test_what_is_refused_leaves_texts_and_names_as_they_were(self):
        desk = self.desk()
        before = kept(desk)
        for row in ("net a\nnet 1", "wish a\nwish 1", "judge b w", "turn pair A", "behind pair a a", "least any w A",
                    "x",
                    "drop net zz", "net A\nnet 1\nout 0", None, 7):
            with self.assertRaises(JoinError):
                desk.say(row)
        self.assertEqual(kept(desk), before)

    def test_asked_again_the_same_is_told(self):
        one, other = self.desk(), self.desk()
        rows = ("way pairs w c", "least any w d", "names", "show net c", "show net d", "better a", "turn a t",
                "show net t")
        self.assertEqual([one.say(row) for row in rows], [other.say(row) for row in rows])

    def test_what_stands_by_another_name_is_not_changed(self):
        desk = self.desk()
        desk.say("beside pair pair c")
        desk.say("tidy a")
        self.assertEqual(read_net(desk.say("show net pair")), PAIR)
        self.assertEqual(read_net(desk.say("show net b")), running(3))
        desk.say("net d\n" + net_text(windows(4, 2)))
        self.assertEqual(read_net(desk.say("show net d")), windows(4, 2))


if __name__ == "__main__":
    unittest.main()
