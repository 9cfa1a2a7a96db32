"""Texts of nets and wishes [40, 41], and what point 2 says of them."""

import re
import unittest

from fewjoins.errors import JoinError, NoText
from fewjoins.judged import is_wish
from fewjoins.nets import is_net
from fewjoins.rows import givens_of
from fewjoins.texts import net_text, read_net, read_wish, wish_text
from fewjoins.widths import running
from samples import Numbers, long_net, odd_things, some_nets, some_wishes

NETS = some_nets(111, 60)
WISHES = some_wishes(112, 60)

NUMBER = r"(0|[1-9][0-9]{0,9})"


def slow_net_text(net):
    """Point 40's text of a net, written bit by bit."""
    text = "net " + str(net[0])
    for a, b in net[1]:
        text += "\njoin " + str(a) + " " + str(b)
    for out in net[2]:
        text += "\nout " + str(out)
    return text


def slow_wish_text(wish):
    text = "wish " + str(wish[0])
    for row in wish[1]:
        text += "\nrow"
        for given in range(12):
            if row // 2 ** given % 2:
                text += " " + str(given)
    return text


def net_told(rows):
    """The net whose text has these rows, None where there is none."""
    many, joins, outs = 0, [], []
    for row in rows:
        words = row.split(" ")
        if re.fullmatch("net " + NUMBER, row, re.ASCII) and not many:
            many = int(words[1])
        elif re.fullmatch("join " + NUMBER + " " + NUMBER, row, re.ASCII):
            joins.append((int(words[1]), int(words[2])))
        elif re.fullmatch("out " + NUMBER, row, re.ASCII):
            outs.append(int(words[1]))
        else:
            return None
    net = (many, tuple(joins), tuple(outs))
    return net if is_net(net) and slow_net_text(net) == "\n".join(rows) else None


def wish_told(rows):
    """The wish whose text has these rows, None where there is none."""
    if not re.fullmatch("wish " + NUMBER, rows[0], re.ASCII):
        return None
    if not all(re.fullmatch("row( " + NUMBER + ")+", row, re.ASCII) for row in rows[1:]):
        return None
    many = int(rows[0].split(" ")[1])
    told = [sum(2 ** min(int(word), 99) for word in row.split(" ")[1:]) for row in rows[1:]]
    wish = (many, tuple(told))
    return wish if is_wish(wish) and slow_wish_text(wish) == "\n".join(rows) else None


def slow_row(text, told, last):
    """Point 41's field: the first row up to which no text goes, last being a row that ends any text not ended."""
    rows = text.split("\n")
    for at in range(len(rows)):
        first = rows[:at + 1]
        if told(first) is None and told(first + [last]) is None:
            return at
    return len(rows)


def answer(read, text):
    """What is read, or the field of the refusal."""
    try:
        return ("read", read(text))
    except NoText as error:
        return ("refused", error.row)


def net_due(text):
    net = net_told(text.split("\n"))
    return ("refused", slow_row(text, net_told, "out 0")) if net is None else ("read", net)


def wish_due(text):
    wish = wish_told(text.split("\n"))
    return ("refused", slow_row(text, wish_told, "row 0")) if wish is None else ("read", wish)


# Figures of other writings, blanks and row ends that Python knows as such, signs, letters, and what is no sign at all.
SIGNS = ["0", "1", "9", " ", "\n", "\t", "\r", "-", "+", "_", ".", ",", "a", "N", "\x00", "\x0b", "\x0c", "\x1c",
         "\x85",
         "\xa0", "\xb2", "\u0661", "\u0966", "\uff11", "\u2028", "\u2029", "\u2003", "\ud800", "\U0001d7ce", "\\n", "%"]

WORDS = ["", "0", "1", "2", "3", "12", "13", "24", "143", "144", "00", "01", "+1", "-1", "1.", "1e0", "0x1", "1_0", "x",
         "net", "wish", "join", "out", "row", "Net", "\u0661", "\xb2", "\uff11", "9" * 60, "1" * 5000, "0" * 5000,
         "None",
         "True"]


def changed_texts(numbers, text):
    """A text with a word, a sign or a row left out, put in or put over, at every row; and cut off."""
    rows = text.split("\n")
    for at in range(len(rows)):
        ahead, row, behind = rows[:at], rows[at], rows[at + 1:]
        words = row.split(" ")
        spot = numbers.below(len(words))
        word = WORDS[numbers.below(len(WORDS))]
        sign = SIGNS[numbers.below(len(SIGNS))]
        place = numbers.below(len(row) + 1)
        others = rows[numbers.below(len(rows))]
        new = [
            [" ".join(words[:spot] + words[spot + 1:])], [" ".join(words[:spot] + [word] + words[spot:])],
            [" ".join(words[:spot] + [word] + words[spot + 1:])], [row[:place] + row[place + 1:]],
            [row[:place] + sign + row[place:]], [row[:place] + sign + row[place + 1:]],
            [], [row, row], [others, row], [row, others], [others], [""], ["", row], [row, ""], [" " + row],
            [row + " "],
            [row.replace(" ", "  ")], [row.replace(" ", "\t")], [row.upper()], [row + "\r"],
            [row.replace(" ", " 0")], [row + " 0"]]
        for middle in new:
            yield "\n".join(ahead + middle + behind)
        yield "\n".join(rows[:at])
        yield "\n".join(rows[:at] + [row[:place]])
        yield "\n".join(rows[:at]) + "\n"


class Told(unittest.TestCase):
    def test_nets_by_hand(self):
        self.assertEqual(net_text((1, (), (0,))), "net 1\nout 0")
        self.assertEqual(net_text((3, ((0, 1), (2, 3)), (4, 3, 4))), "net 3\njoin 0 1\njoin 2 3\nout 4\nout 3\nout 4")
        self.assertEqual(net_text((12, ((10, 11),), (12, 0))), "net 12\njoin 10 11\nout 12\nout 0")

    def test_wishes_by_hand(self):
        self.assertEqual(wish_text((1, (1,))), "wish 1\nrow 0")
        self.assertEqual(wish_text((3, (7, 4, 5, 4))), "wish 3\nrow 0 1 2\nrow 2\nrow 0 2\nrow 2")
        self.assertEqual(wish_text((12, (4095,))), "wish 12\nrow 0 1 2 3 4 5 6 7 8 9 10 11")

    def test_drawn_ones(self):
        for net in NETS:
            self.assertEqual(net_text(net), slow_net_text(net))
        for wish in WISHES:
            self.assertEqual(wish_text(wish), slow_wish_text(wish))

    def test_read_back(self):
        for net in NETS:
            self.assertEqual(read_net(net_text(net)), net)
        for wish in WISHES:
            self.assertEqual(read_wish(wish_text(wish)), wish)

    def test_what_is_read_is_a_net_or_a_wish(self):
        for net in NETS:
            self.assertIs(is_net(read_net(net_text(net))), True)
        for wish in WISHES:
            self.assertIs(is_wish(read_wish(wish_text(wish))), True)

    def test_asked_again_the_same_is_told(self):
        for net in NETS[:20]:
            self.assertEqual(net_text(net), net_text(net))
            self.assertEqual(read_net(net_text(net)), read_net(net_text(net)))


class Refused(unittest.TestCase):
    def assert_refused(self, read, row, *texts):
        for text in texts:
            with self.assertRaises(NoText) as caught:
                read(text)
            self.assertEqual((type(caught.exception.row), caught.exception.row), (int, row), text)
            self.assertIs(type(caught.exception), NoText)
            self.assertIsInstance(caught.exception, JoinError)

    def test_what_is_no_text(self):
        things = [thing for thing in odd_things() if not isinstance(thing, str)]
        self.assert_refused(read_net, 0, (2, (), (0,)), b"net 1\nout 0", ["net 1", "out 0"], *things)
        self.assert_refused(read_wish, 0, (2, (1,)), b"wish 1\nrow 0", ["wish 1", "row 0"], *things)

    def test_empty_and_odd_texts(self):
        for read in (read_net, read_wish):
            self.assert_refused(read, 0, "", "\n", "\n\n", " ", "0", "net", "wish", "out 0", "row 0", "\nnet 1\nout 0",
                                "\nwish 1\nrow 0", "\ud800", "\x00")

    def test_the_other_kind(self):
        self.assert_refused(read_net, 0, "wish 1\nrow 0")
        self.assert_refused(read_wish, 0, "net 1\nout 0")
        self.assert_refused(read_net, 1, "net 1\nrow 0")
        self.assert_refused(read_wish, 1, "wish 1\nout 0")


class NetRefused(Refused):
    def test_the_first_row(self):
        for first in ("net 0", "net 13", "net 01", "net", "net ", "net  1", " net 1", "net 1 ", "net 1 1", "Net 1",
                      "net1",
                      "net\t1", "net 1\r", "net -1", "net +1", "net a", "net \u0661", "net \xb2", "net \uff11",
                      "net 1.0",
                      "net 1_2", "net " + "1" * 5000, "net " + "0" * 5000, "net 1\x0b", "net\xa01", "net 1\x1cout 0"):
            self.assert_refused(read_net, 0, first, first + "\nout 0")

    def test_numbers_of_givens(self):
        for many in range(1, 13):
            self.assertEqual(read_net(f"net {many}\nout {many - 1}"), (many, (), (many - 1,)))
            self.assert_refused(read_net, 1, f"net {many}\nout {many}")

    def test_no_out(self):
        self.assert_refused(read_net, 1, "net 1", "net 12")
        self.assert_refused(read_net, 2, "net 2\njoin 0 1")
        self.assert_refused(read_net, 3, "net 2\njoin 0 1\njoin 0 2")
        self.assert_refused(read_net, 133, net_text(long_net(12, 132, 1)).rsplit("\n", 1)[0])

    def test_joinings(self):
        for row in ("join 1 0", "join 0 0", "join 0 2", "join 2 3", "join 0", "join", "join ", "join 0 1 2",
                    "join 0 1 ",
                    "join  0 1", "join 0  1", " join 0 1", "join 00 1", "join 0 01", "join 0,1", "join 0 -1",
                    "join -1 0",
                    "Join 0 1", "join 0 1\r", "join 0 \u0661", "join 0 b", "join 0 1_", "row 0 1", "", "net 2",
                    "join 0 " + "9" * 5000):
            self.assert_refused(read_net, 1, "net 2\n" + row, "net 2\n" + row + "\nout 0")
            self.assert_refused(read_net, 2, "net 3\njoin 1 2\n" + row.replace("0 2", "0 4").replace("2 3", "2 4"))

    def test_no_joining_of_one_given(self):
        self.assert_refused(read_net, 1, "net 1\njoin 0 1\nout 0", "net 1\njoin 0 0\nout 0")

    def test_two_things_with_the_same_row(self):
        self.assert_refused(read_net, 3, "net 2\njoin 0 1\njoin 0 1\njoin 2 3\nout 0",
                            "net 2\njoin 0 1\njoin 0 2\njoin 1 3")
        self.assertEqual(read_net("net 2\njoin 0 1\njoin 0 1\nout 3"), (2, ((0, 1), (0, 1)), (3,)))

    def test_132_and_133_joinings(self):
        text = net_text(long_net(2, 132, 1))
        self.assertEqual(read_net(text), long_net(2, 132, 1))
        head, out = text.rsplit("\n", 1)
        self.assert_refused(read_net, 133, head + "\njoin 0 1\n" + out, head + "\njoin 0 1", head + "\njoin")

    def test_outs(self):
        for row in ("out 2", "out 3", "out", "out ", "out 0 0", "out 0 ", " out 0", "out  0", "out 00", "out -0",
                    "out +0",
                    "out a", "out \u0660", "out 0\r", "Out 0", "out\t0", "0", "join 0 1", "out 0\x0c",
                    "out " + "0" * 5000):
            self.assert_refused(read_net, 2, "net 2\nout 1\n" + row, "net 2\nout 1\n" + row + "\nout 1")

    def test_outs_of_joinings(self):
        self.assertEqual(read_net("net 2\njoin 0 1\nout 2"), (2, ((0, 1),), (2,)))
        self.assert_refused(read_net, 2, "net 2\njoin 0 1\nout 3", "net 2\njoin 0 1\nout 3\nout 0")

    def test_a_joining_behind_an_out(self):
        self.assert_refused(read_net, 2, "net 2\nout 0\njoin 0 1", "net 2\nout 0\njoin 0 1\nout 2")

    def test_24_and_25_outs(self):
        text = "net 1" + "\nout 0" * 24
        self.assertEqual(read_net(text), (1, (), (0,) * 24))
        self.assert_refused(read_net, 25, text + "\nout 0", text + "\n", text + "\nout 0\nout 0")

    def test_the_end(self):
        self.assert_refused(read_net, 2, "net 1\nout 0\n", "net 1\nout 0\n\n", "net 1\nout 0\n ",
                            "net 1\nout 0\nnet 1\nout 0")
        self.assert_refused(read_net, 1, "net 1\n", "net 1\n\nout 0")
        self.assert_refused(read_net, 0, "net 1\r\nout 0", "net 1\rout 0")

    def test_changed_texts_held_against_the_words(self):
        numbers = Numbers(113)
        seen = {"read": 0, "refused": 0}
        for net in NETS:
            if len(net[1]) <= 14 and len(net[2]) <= 5:
                for text in changed_texts(numbers, net_text(net)):
                    told = answer(read_net, text)
                    seen[told[0]] += 1
                    self.assertEqual(told, net_due(text), repr(text))
        self.assertGreater(min(seen.values()), 200)

    def test_changed_long_texts(self):
        numbers = Numbers(114)
        texts = list(changed_texts(numbers, net_text(long_net(3, 131, 23))))
        for turn in range(60):
            text = texts[numbers.below(len(texts))]
            self.assertEqual(answer(read_net, text), net_due(text), repr(text))


class WishRefused(Refused):
    def test_the_first_row(self):
        for first in ("wish 0", "wish 13", "wish 01", "wish", "wish ", "wish  1", " wish 1", "wish 1 ", "wish 1 1",
                      "Wish 1",
                      "wish\t1", "wish 1\r", "wish -1", "wish a", "wish \u0661", "wish \xb2", "wish " + "1" * 5000):
            self.assert_refused(read_wish, 0, first, first + "\nrow 0")

    def test_numbers_of_givens(self):
        for many in range(1, 13):
            self.assertEqual(read_wish(f"wish {many}\nrow {many - 1}"), (many, (2 ** (many - 1),)))
            self.assert_refused(read_wish, 1, f"wish {many}\nrow {many}")

    def test_no_row(self):
        self.assert_refused(read_wish, 1, "wish 1", "wish 12")

    def test_rows(self):
        for row in ("row", "row ", "row 3", "row 0 3", "row 1 0", "row 0 0", "row 0 1 1", "row 0  1", " row 0",
                    "row 0 ",
                    "row 00", "row 0 01", "row -1", "row +1", "row a", "row 0,1", "row \u0661", "row \xb2", "Row 0",
                    "row 0\r",
                    "row\t0", "0", "", "wish 3", "out 0", "row 12", "row " + "2" * 5000, "row 0 2 1", "rows 0"):
            self.assert_refused(read_wish, 1, "wish 3\n" + row, "wish 3\n" + row + "\nrow 0")
            self.assert_refused(read_wish, 2, "wish 3\nrow 0 2\n" + row, "wish 3\nrow 0 2\n" + row + "\nrow 0")

    def test_24_and_25_rows(self):
        text = "wish 2" + "\nrow 0 1" * 24
        self.assertEqual(read_wish(text), (2, (3,) * 24))
        self.assert_refused(read_wish, 25, text + "\nrow 0", text + "\n", text + "\nrow 1\nrow 1")

    def test_the_end(self):
        self.assert_refused(read_wish, 2, "wish 1\nrow 0\n", "wish 1\nrow 0\n\n", "wish 1\nrow 0\n ")
        self.assert_refused(read_wish, 1, "wish 1\n", "wish 1\n\nrow 0")

    def test_changed_texts_held_against_the_words(self):
        numbers = Numbers(115)
        seen = {"read": 0, "refused": 0}
        for wish in WISHES:
            for text in changed_texts(numbers, wish_text(wish)):
                told = answer(read_wish, text)
                seen[told[0]] += 1
                self.assertEqual(told, wish_due(text), repr(text))
        self.assertGreater(min(seen.values()), 200)


class OwnReading(unittest.TestCase):
    """The slow reading that the others are held against, by hand."""

    def test_rows(self):
        self.assertEqual(slow_row("net 2\nout 0\njoin 0 1", net_told, "out 0"), 2)
        self.assertEqual(slow_row("net 2\njoin 0 1", net_told, "out 0"), 2)
        self.assertEqual(slow_row("", net_told, "out 0"), 0)
        self.assertEqual(slow_row("wish 2\nrow 0 1\nrow 2", wish_told, "row 0"), 2)
        self.assertEqual(slow_row("wish 2", wish_told, "row 0"), 1)
        self.assertEqual(net_told(net_text(running(4)).split("\n")), running(4))
        self.assertEqual(wish_told(["wish 3", "row 0 2"]), (3, (5,)))
        self.assertEqual(givens_of(5), [0, 2])


if __name__ == "__main__":
    unittest.main()
