"""Point 7: a net is shown as text."""

import copy
import unittest

from bearfaults.reader import read
from bearfaults.texts import shown


def chain(in_names, count):
    """A net of ins of one wire and so many gates, each the not of the wire ahead of it."""
    first = len(in_names)
    gates = [("not", (first + place - 1,), False) for place in range(count)]
    return ([(name, 1) for name in in_names], gates, [("y", (first + count - 1,))])


def gate_names(net):
    """The names of the gates as the net is shown."""
    rows = [row.split(" ") for row in shown(net).split("\n")]
    return [words[1] for words in rows if words[0] in ("gate", "sure")]


class Shown(unittest.TestCase):

    def test_the_least_net(self):
        self.assertEqual(shown(([("p", 1)], [], [("y", (0,))])), "in p 1\nout y p")

    def test_a_net_of_all_forms(self):
        net = (
            [("p", 1), ("q", 2), ("r", 3)],
            [
                ("not", (0,), False), ("and", (1, 2), True), ("or", (3, 7), False),
                ("xor", (4, 5), True), ("vote", (6, 8, 9), False),
            ],
            [("y", (10,)), ("p", (0, 2)), ("a", (5, 6, 5))],
        )
        rows = (
            "in p 1", "in q 2", "in r 3",
            "gate a not p", "sure b and q:0 q:1", "gate c or r:0 b", "sure d xor r:1 r:2", "gate e vote a c d",
            "out y e", "out p p q:1", "out a r:2 a r:2",
        )
        self.assertEqual(shown(net), "\n".join(rows))
        self.assertIs(type(shown(net)), str)

    def test_the_net_that_was_handed_in_stays(self):
        net = ([("a", 3), ("b", 1)], [("not", (3,), True), ("or", (0, 4), False)], [("y", (5, 4)), ("z", (2,))])
        before = copy.deepcopy(net)
        parts = list(net)
        shown(net)
        self.assertEqual(net, before)
        for one, other in zip(net, parts):
            self.assertIs(one, other)
        self.assertEqual(shown(net), shown(before))


class GateNames(unittest.TestCase):

    def test_from_one_letter_to_two(self):
        letters = "abcdefghijklmnopqrstuvwxyz"
        due = list(letters) + ["b" + letter for letter in letters] + ["c" + letter for letter in "abcdefgh"]
        self.assertEqual(len(due), 60)
        self.assertEqual(gate_names(chain(["pp"], 60)), due)
        self.assertEqual(gate_names(chain(["pp"], 27))[25:], ["z", "ba"])

    def test_beyond_two_letters(self):
        names = gate_names(chain(["pp"], 680))
        self.assertEqual(names[675:679], ["zz", "baa", "bab", "bac"])

    def test_an_ins_name(self):
        self.assertEqual(gate_names(chain(["a"], 3)), ["xa", "b", "c"])
        self.assertEqual(gate_names(chain(["c", "a"], 4)), ["xa", "b", "xc", "d"])
        self.assertEqual(gate_names(chain(["ba"], 28))[24:], ["y", "z", "xba", "bb"])
        self.assertEqual(gate_names(chain(["x"], 25))[22:], ["w", "xx", "y"])
        self.assertEqual(gate_names(([("b", 3)], [("not", (0,), False)] * 3, [("y", (1,))])), ["a", "xb", "c"])

    def test_an_ins_name_more_than_once(self):
        self.assertEqual(gate_names(chain(["xa", "a"], 2)), ["xxa", "b"])
        self.assertEqual(gate_names(chain(["xa"], 2)), ["a", "b"])
        self.assertEqual(gate_names(chain(["xx", "xxx", "x"], 25))[22:], ["w", "xxxx", "y"])
        names = ["ba", "xba", "xxba", "xxxba", "xxxxba", "xxxxxba"]
        self.assertEqual(gate_names(chain(names, 28))[26:], ["xxxxxxba", "bb"])

    def test_an_outs_name_is_free(self):
        self.assertEqual(shown(([("p", 1)], [("not", (0,), False)], [("a", (1,))])), "in p 1\ngate a not p\nout a a")

    def test_barred_words(self):
        # Places whose letters are `in`, `or` lie beyond sixty gates; nothing is refused for that.
        # With one x ahead `or` would be `xor`, barred too.
        names = gate_names(chain(["pp"], 400))
        self.assertEqual(names[220:223], ["im", "xin", "io"])
        self.assertEqual(names[380:383], ["oq", "xxor", "os"])

    def test_barred_words_and_ins_names(self):
        self.assertEqual(gate_names(chain(["xin"], 222))[221], "xxin")
        self.assertEqual(gate_names(chain(["xxin", "xin"], 222))[221], "xxxin")
        self.assertEqual(gate_names(chain(["xxor"], 382))[381], "xxxor")


class ReadAgain(unittest.TestCase):

    def same(self, net):
        with self.subTest(net=net):
            text = shown(net)
            self.assertEqual(read(text), net)
            self.assertEqual(shown(read(text)), text)

    def test_names_of_ins(self):
        kinds = ([], ["a"], ["x"], ["a", "xa", "xxa"], ["xx", "x", "xxx"], ["z", "ba", "xba"], ["ch", "xch", "xxch"],
                 ["ba", "xba", "xxba", "xxxba", "xxxxba", "xxxxxba"], ["a", "b", "c", "d", "e", "f"])
        for names in kinds:
            for count in (1, 2, 24, 26, 27, 59, 60):
                self.same(chain(names or ["p"], count))

    def test_widths_and_kinds(self):
        counts = {"not": 1, "and": 2, "or": 2, "xor": 2, "vote": 3}
        kinds = list(counts)
        for seed in range(60):
            ins = [("abxpqr"[place], 1 + (seed + place * place) % 3) for place in range(1 + seed % 6)]
            wires = sum(width for name, width in ins)
            gates = []
            for place in range(seed):
                kind = kinds[(seed + place) % 5]
                reads = tuple((seed * 7 + place * 5 + k * 3) % (wires + place) for k in range(counts[kind]))
                gates.append((kind, reads, (seed + place) % 3 == 0))
            top = wires + seed
            outs = []
            for place in range(1 + seed % 6):
                outs.append(("abyzuv"[place], tuple((top - 1 - place * k) % top for k in range(1 + place % 3))))
            self.same((ins, gates, outs))

    def test_a_text_shown_as_it_was(self):
        text = "in p 2\nin q 1\ngate a and p:0 q\nsure b vote a p:1 q\nout y b\nout z a p:0 q"
        self.assertEqual(shown(read(text)), text)

    def test_gates_are_named_anew(self):
        text = "in p 1\ngate zz not p\ngate a not zz\nout y a"
        self.assertEqual(shown(read(text)), "in p 1\ngate a not p\ngate b not a\nout y b")


if __name__ == "__main__":
    unittest.main()
