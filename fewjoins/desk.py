"""A desk that keeps nets and wishes by names, and answers rows of words."""

from fewjoins.better import bettered
from fewjoins.bounds import bound
from fewjoins.cases import least, tried
from fewjoins.errors import NoName, NoRow
from fewjoins.judged import first_fault
from fewjoins.likeness import likeness_net
from fewjoins.pairs import pairs_net
from fewjoins.plain import plain_net
from fewjoins.texts import net_text, number_of, read_net, read_wish, wish_text
from fewjoins.tidy import tidied
from fewjoins.together import behind, beside
from fewjoins.turning import turned_net

MOST_LETTERS = 8
MOST_FEW = 11

# Each def that says something is handed a desk and the words of a row, and
# tells the answer. What may be refused is done ahead of any change.


def keep_net(desk, name, net):
    """Lets a net stand by a name, and tells how many joinings it has."""
    desk.nets[name] = net
    return str(len(net[1]))


def say_net(desk, words):
    keep_net(desk, words[1], read_net(words[3]))
    return "ok"


def say_wish(desk, words):
    desk.wishes[words[1]] = read_wish(words[3])
    return "ok"


def say_show_net(desk, words):
    return net_text(desk.nets[words[2]])


def say_show_wish(desk, words):
    return wish_text(desk.wishes[words[2]])


def say_names(desk, words):
    names = [f"net {name}" for name in sorted(desk.nets)] + [f"wish {name}" for name in sorted(desk.wishes)]
    return "; ".join(names) if names else "none"


def say_judge(desk, words):
    fault = first_fault(desk.nets[words[1]], desk.wishes[words[2]])
    return "yes" if fault is None else f"{fault[0]} {fault[1]}"


def say_plain(desk, words):
    return keep_net(desk, words[3], plain_net(desk.wishes[words[2]]))


def say_pairs(desk, words):
    return keep_net(desk, words[3], pairs_net(desk.wishes[words[2]]))


def say_likeness(desk, words):
    return keep_net(desk, words[3], likeness_net(desk.wishes[words[2]]))


def say_least(desk, words):
    net, paper = least(desk.wishes[words[2]], words[1] == "clean")
    return keep_net(desk, words[3], net)


def say_bound(desk, words):
    number, paper = bound(desk.wishes[words[1]])
    return str(number)


def say_few(desk, words):
    found, told = tried(desk.wishes[words[3]], words[1] == "clean", number_of(words[2]))
    return "yes" if found else "no"


def say_tidy(desk, words):
    return keep_net(desk, words[1], tidied(desk.nets[words[1]]))


def say_better(desk, words):
    return keep_net(desk, words[1], bettered(desk.nets[words[1]]))


def say_turn(desk, words):
    return keep_net(desk, words[2], turned_net(desk.nets[words[1]]))


def say_behind(desk, words):
    return keep_net(desk, words[3], behind(desk.nets[words[1]], desk.nets[words[2]]))


def say_beside(desk, words):
    return keep_net(desk, words[3], beside(desk.nets[words[1]], desk.nets[words[2]]))


def say_drop_net(desk, words):
    del desk.nets[words[2]]
    return "ok"


def say_drop_wish(desk, words):
    del desk.wishes[words[2]]
    return "ok"


# The words of each row. A net stands by NET, a wish by WISH; by NEW nothing needs to.
DEEDS = {
    "net NEW \n TEXT": say_net,
    "wish NEW \n TEXT": say_wish,
    "show net NET": say_show_net,
    "show wish WISH": say_show_wish,
    "names": say_names,
    "judge NET WISH": say_judge,
    "way plain WISH NEW": say_plain,
    "way pairs WISH NEW": say_pairs,
    "way likeness WISH NEW": say_likeness,
    "least any WISH NEW": say_least,
    "least clean WISH NEW": say_least,
    "bound WISH": say_bound,
    "few any N WISH": say_few,
    "few clean N WISH": say_few,
    "tidy NET": say_tidy,
    "better NET": say_better,
    "turn NET NEW": say_turn,
    "behind NET NET NEW": say_behind,
    "beside NET NET NEW": say_beside,
    "drop net NET": say_drop_net,
    "drop wish WISH": say_drop_wish,
}


class Desk:
    """A desk with its nets and wishes."""

    def __init__(self):
        self.nets = {}
        self.wishes = {}

    def say(self, row):
        """Answers a row of words with a text."""
        words = words_in(row)
        form = form_of(words)
        refuse_names(self, form.split(" "), words)
        deed = DEEDS[form]
        return deed(self, words)


def words_in(row):
    """Tells the words of a row; behind its first line feed, which is a word, the text is one, too."""
    if not isinstance(row, str):
        raise NoRow("a desk is told texts alone")
    head, feed, text = row.partition("\n")
    return head.split(" ") + ([feed, text] if feed else [])


def form_of(words):
    """Tells the form that has these words."""
    for form in DEEDS:
        if has_form(form.split(" "), words):
            return form
    raise NoRow("a desk is told no such row")


def has_form(parts, words):
    """Tells whether words stand for the parts of a form, one by one."""
    # What should be a name could be any word, so a line feed is asked for by itself.
    if len(parts) != len(words) or ("\n" in parts) != ("\n" in words):
        return False
    return all([fits(part, word) for part, word in zip(parts, words)])


def fits(part, word):
    """Tells whether a word may stand for a part of a form; names are looked at later."""
    if part == "N":
        number = number_of(word)
        return number is not None and number <= MOST_FEW
    return part in ("NET", "WISH", "NEW", "TEXT") or part == word


def refuse_names(desk, parts, words):
    """Refuses words that should be names and are none, or by which nothing stands where something ought to."""
    for part, word in zip(parts, words):
        if part == "NEW" and not is_name(word):
            raise NoName("a name is one to eight small letters")
        # By what is no name nothing stands.
        if part == "NET" and word not in desk.nets:
            raise NoName("no net stands by this name")
        if part == "WISH" and word not in desk.wishes:
            raise NoName("no wish stands by this name")


def is_name(word):
    """Tells whether a word is one to eight small letters a to z."""
    return len(word) <= MOST_LETTERS and word.isascii() and word.isalpha() and word.islower()
