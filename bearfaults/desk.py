"""The desk: is told rows, and answers each by a text."""

from bearfaults.borne import bears
from bearfaults.errors import NoForm, NoneYet, NoShape, NotSound
from bearfaults.joins import keeps
from bearfaults.made import in_pairs, in_threes, size, with_votes
from bearfaults.reader import read
from bearfaults.runs import all_inputs, is_sound, run, told
from bearfaults.surest import surest
from bearfaults.texts import shown

ROW_HEAD = "row "
BITS = {"0": 0, "1": 1}
COUNTS = {"0": 0, "1": 1, "2": 2, "3": 3}
LEVELS = ("right", "safe")
LONE_WORDS = ("clear", "read", "three", "pair", "votes", "keeps", "size", "shown")


def has_form(words):
    """Whether the words are those of a row that the desk knows, but for `row` and its net's row."""
    if words[0] == "run":
        return len(words) > 1 and all([word in BITS for word in words[1:]])
    if words[0] in ("bears", "sure"):
        return len(words) == 3 and words[1] in COUNTS and words[2] in LEVELS
    return len(words) == 1 and words[0] in LONE_WORDS


def parted(numbers):
    """The whole numbers as a text, parted by blanks."""
    return " ".join([str(number) for number in numbers])


def from_one(places):
    """The places as a text, counted from 1."""
    return parted([place + 1 for place in places])


def many_gates(net):
    """How many gates the net has, as a text."""
    many = len(net[1])
    return f"gates {many}"


def run_answer(net, bits):
    """How each out is read at the input."""
    if len(bits) != len(net[0]):
        raise NoForm("another count of bits than of ins")
    found = [told(out) for out in run(net, bits, (), ())]
    return " ".join(["-" if bit is None else str(bit) for bit in found])


def check_sound(net):
    """Refuses a net that isn't sound."""
    if not is_sound(net):
        raise NotSound("a net with an out that is read as no bit at some input")


def bears_answer(net, many, level):
    """Whether the net bears so many faults, or what breaks it."""
    check_sound(net)
    found = bears(net, many, level)
    if found[0] == "bears":
        return "bears"
    places = from_one(found[1])
    bits = parted(all_inputs(len(net[0]))[found[2]])
    return f"breaks {places} at {bits}"


def sure_answer(net, many, level):
    """The surest gates, by so many faults and the level."""
    check_sound(net)
    places = surest(net, many, level)
    if not places:
        return "none"
    return from_one(places)


def made_by(word, net):
    """The net as the word makes it."""
    if word == "three":
        return in_threes(net)
    if word == "pair":
        return in_pairs(net)
    return with_votes(net)


def answer_of(words, net):
    """The answer to a row that asks of the net and doesn't change it."""
    if words[0] == "run":
        return run_answer(net, tuple([BITS[word] for word in words[1:]]))
    if words[0] == "bears":
        return bears_answer(net, COUNTS[words[1]], words[2])
    if words[0] == "sure":
        return sure_answer(net, COUNTS[words[1]], words[2])
    if words[0] == "keeps":
        return keeps(net)[0]
    if words[0] == "size":
        return parted(size(net))
    return shown(net).replace("\n", "; ")


class Desk:
    """Rows as they were told, and the net that was read or made last."""

    def __init__(self):
        self.rows = []
        self.net = None

    def say(self, row):
        """The answer to the row, or a refusal that changes nothing."""
        if "\n" in row:
            raise NoShape("a row with a line feed")
        if row.startswith(ROW_HEAD):
            self.rows.append(row[len(ROW_HEAD):])
            return "ok"
        words = row.split(" ")
        if not has_form(words):
            raise NoShape(f"a row of no form: {row!r}")
        if row == "clear":
            self.rows = []
            return "ok"
        if row == "read":
            self.net = read("\n".join(self.rows))
            return many_gates(self.net)
        return self.asked(words)

    def asked(self, words):
        """The answer to a row that asks of the net."""
        if self.net is None:
            raise NoneYet("no net was read")
        if words[0] in ("three", "pair", "votes"):
            self.net = made_by(words[0], self.net)
            return many_gates(self.net)
        return answer_of(words, self.net)
