"""Points 4 and 5: names, rows and wires, and the net that is read."""

import unittest

from bearfaults.reader import is_name, read

BARRED = ("in", "gate", "sure", "out", "not", "and", "or", "xor", "vote")
COUNTS = {"not": 1, "and": 2, "or": 2, "xor": 2, "vote": 3}
SIGNS = "".join(chr(code) for code in range(32, 127) if chr(code) != "%") + "\n"


class Names(unittest.TestCase):

    def test_counts_of_letters(self):
        self.assertIs(is_name(""), False)
        for count in range(1, 9):
            self.assertIs(is_name("q" * count), True)
        for count in (9, 10, 80, 5000):
            self.assertIs(is_name("q" * count), False)
        self.assertIs(is_name("abcdefgh"), True)
        self.assertIs(is_name("abcdefghi"), False)

    def test_words_of_one_sign(self):
        for sign in SIGNS:
            with self.subTest(sign=sign):
                self.assertIs(is_name(sign), "a" <= sign <= "z")

    def test_a_sign_anywhere_in_a_word(self):
        for sign in SIGNS:
            for word in (sign + "ab", "a" + sign + "b", "ab" + sign):
                with self.subTest(word=word):
                    self.assertIs(is_name(word), "a" <= sign <= "z")

    def test_capital_letters_and_figures(self):
        for word in ("A", "Z", "In", "IN", "aB", "Ab", "a1", "1a", "1", "a:0", "a_b", "a-b", "a.", " a", "a ", "a b"):
            with self.subTest(word=word):
                self.assertIs(is_name(word), False)

    def test_barred_words(self):
        for word in BARRED:
            with self.subTest(word=word):
                self.assertIs(is_name(word), False)

    def test_barred_words_with_a_letter_more(self):
        for word in BARRED:
            for place in range(len(word) + 1):
                for letter in "qx":
                    more = word[:place] + letter + word[place:]
                    with self.subTest(word=more):
                        # or with an x ahead is barred itself
                        self.assertIs(is_name(more), more not in BARRED)

    def test_barred_words_with_a_letter_less(self):
        for word in BARRED:
            for place in range(len(word)):
                less = word[:place] + word[place + 1:]
                with self.subTest(word=less):
                    # xor without its x is barred itself
                    self.assertIs(is_name(less), less not in BARRED)

    def test_barred_words_in_capitals_or_twice(self):
        for word in BARRED:
            self.assertIs(is_name(word.upper()), False)
            self.assertIs(is_name(word + word), True)


class Rows(unittest.TestCase):

    def test_the_least_net(self):
        self.assertEqual(read("in p 1\nout y p"), ([("p", 1)], [], [("y", (0,))]))

    def test_widths_of_ins(self):
        self.assertEqual(read("in p 1\nout y p p p"), ([("p", 1)], [], [("y", (0, 0, 0))]))
        self.assertEqual(read("in p 2\nout y p:1 p:0"), ([("p", 2)], [], [("y", (1, 0))]))
        self.assertEqual(read("in p 3\nout y p:2 p:0 p:1"), ([("p", 3)], [], [("y", (2, 0, 1))]))

    def test_kinds_of_gates(self):
        for kind, count in COUNTS.items():
            for word in ("gate", "sure"):
                wires = ["r", "q", "p"][:count]
                text = "in p 1\nin q 1\nin r 1\n%s g %s %s\nout y g" % (word, kind, " ".join(wires))
                with self.subTest(text=text):
                    numbers = (2, 1, 0)[:count]
                    self.assertEqual(read(text)[1], [(kind, numbers, word == "sure")])

    def test_a_gate_reads_a_wire_more_than_once(self):
        self.assertEqual(read("in p 1\ngate g vote p p p\nout y g")[1], [("vote", (0, 0, 0), False)])

    def test_counts_of_wires_of_outs(self):
        head = "in p 3\ngate g not p:1\n"
        self.assertEqual(read(head + "out y g")[2], [("y", (3,))])
        self.assertEqual(read(head + "out y g p:2")[2], [("y", (3, 2))])
        self.assertEqual(read(head + "out y p:0 g p:2")[2], [("y", (0, 3, 2))])

    def test_outs_have_names_of_their_own(self):
        net = read("in p 1\ngate g not p\nout p g\nout g p")
        self.assertEqual(net[2], [("p", (1,)), ("g", (0,))])

    def test_names_of_eight_letters(self):
        net = read("in abcdefgh 2\ngate hgfedcba not abcdefgh:1\nout outoutou hgfedcba")
        self.assertEqual(net, ([("abcdefgh", 2)], [("not", (1,), False)], [("outoutou", (2,))]))

    def test_the_fullest_net(self):
        rows = ["in %s 3" % name for name in "pqrstu"]
        names = [chr(97 + place // 26) + chr(97 + place % 26) for place in range(60)]
        names = ["g" + name for name in names]
        wires = ["%s:%d" % (name, figure) for name in "pqrstu" for figure in range(3)] + names
        gates = []
        for place, name in enumerate(names):
            rows.append("gate %s vote %s %s %s" % (name, wires[place], wires[place + 9], wires[place + 17]))
            gates.append(("vote", (place, place + 9, place + 17), False))
        outs = []
        for place, name in enumerate("pqrstu"):
            rows.append("out %s %s %s %s" % (name, wires[place], wires[place + 18], wires[77 - place]))
            outs.append((name, (place, place + 18, 77 - place)))
        self.assertEqual(len(rows), 72)
        self.assertEqual(read("\n".join(rows)), ([(name, 3) for name in "pqrstu"], gates, outs))


class Nets(unittest.TestCase):

    text = "\n".join((
        "in p 2", "in q 1", "in r 3",
        "gate g and p:1 q", "sure h vote g r:0 r:2", "gate k xor h g", "sure m not k", "gate n or m p:0",
        "out y n", "out z r:1 k", "out w p:0 q h",
    ))
    net = (
        [("p", 2), ("q", 1), ("r", 3)],
        [
            ("and", (1, 2), False), ("vote", (6, 3, 5), True), ("xor", (7, 6), False),
            ("not", (8,), True), ("or", (9, 0), False),
        ],
        [("y", (10,)), ("z", (4, 8)), ("w", (0, 2, 7))],
    )

    def test_numbers_of_wires(self):
        self.assertEqual(read(self.text), self.net)

    def test_kinds_of_what_is_told(self):
        net = read(self.text)
        self.assertIs(type(net), tuple)
        self.assertEqual(len(net), 3)
        for part in net:
            self.assertIs(type(part), list)
            for entry in part:
                self.assertIs(type(entry), tuple)
        for name, width in net[0]:
            self.assertIs(type(name), str)
            self.assertIs(type(width), int)
        for kind, wires, sure in net[1]:
            self.assertIs(type(kind), str)
            self.check_wires(wires)
            self.assertIs(type(sure), bool)
        for name, wires in net[2]:
            self.assertIs(type(name), str)
            self.check_wires(wires)

    def check_wires(self, wires):
        self.assertIs(type(wires), tuple)
        for wire in wires:
            self.assertIs(type(wire), int)

    def test_the_gates_of_a_net_without_are_a_list(self):
        self.assertIs(type(read("in p 1\nout y p")[1]), list)

    def test_told_lists_are_the_askers_own(self):
        net = read(self.text)
        again = read(self.text)
        lists = list(net) + list(again)
        for place, one in enumerate(lists):
            for other in lists[place + 1:]:
                self.assertIsNot(one, other)
        for part in net:
            part.clear()
            part.append("gone")
        self.assertEqual(again, self.net)
        self.assertEqual(read(self.text), self.net)


if __name__ == "__main__":
    unittest.main()
