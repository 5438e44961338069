"""Points 10 and 11, and 2 and 3 of them: faults borne, and what matters."""

import copy
import unittest

import plain
from bearfaults.borne import bears, matters
from bearfaults.reader import read
from bearfaults.runs import is_sound

THREES = "in p 3\ngate a not p:0\ngate b not p:1\ngate c not p:2\nout y a b c"
PAIRS = "in p 2\ngate a not p:0\ngate b not p:1\nout y a b"


def noughts(count, last):
    """A net of so many gates that always tell 0; its out is 1 where all of the last ones, and p, tell 1."""
    gates = [("xor", (0, 0), False)] * count
    wire = 0
    for number in range(count - last + 1, count + 1):
        gates.append(("and", (wire, number), True))
        wire = len(gates)
    return ([("p", 1)], gates, [("y", (wire,))])


class Checked(unittest.TestCase):

    def same(self, value, due):
        self.assertEqual(plain.kinds(value), plain.kinds(due))


class Bears(Checked):

    def test_one_wire(self):
        net = read("in p 1\ngate a not p\nout y a")
        for level in plain.LEVELS:
            self.same(bears(net, 0, level), ("bears",))
            for many in (1, 2, 3):
                self.same(bears(net, many, level), ("breaks", (0,), 0))

    def test_a_pair(self):
        net = read(PAIRS)
        self.same(bears(net, 1, "right"), ("breaks", (0,), 0))
        self.same(bears(net, 1, "safe"), ("bears",))
        for many in (2, 3):
            self.same(bears(net, many, "right"), ("breaks", (0,), 0))
            self.same(bears(net, many, "safe"), ("breaks", (0, 1), 0))

    def test_threes(self):
        net = read(THREES)
        for level in plain.LEVELS:
            self.same(bears(net, 0, level), ("bears",))
            self.same(bears(net, 1, level), ("bears",))
            self.same(bears(net, 2, level), ("breaks", (0, 1), 0))
            self.same(bears(net, 3, level), ("breaks", (0, 1), 0))

    def test_the_first_input_by_its_number(self):
        net = read("in p 1\nin q 1\ngate a not q\nsure b and a p\nout y b")
        self.same(bears(net, 1, "right"), ("breaks", (0,), 2))
        net = read("in p 1\nin q 1\ngate a not p\nsure b and a q\nout y b")
        self.same(bears(net, 1, "safe"), ("breaks", (0,), 1))

    def test_the_first_set_is_ahead_of_the_first_input(self):
        net = read("in p 1\ngate a not p\nsure b and a p\ngate c not p\nout y b\nout z c")
        self.same(bears(net, 1, "right"), ("breaks", (0,), 1))

    def test_fewer_gates_are_ahead_of_first_places(self):
        net = read("in p 3\ngate a not p:0\ngate b not p:1\ngate c not p:2\ngate d not p:0\nout y a b c\nout z d")
        for many in (1, 2, 3):
            self.same(bears(net, many, "safe"), ("breaks", (3,), 0))

    def test_sets_are_ordered_by_their_places(self):
        # a with d breaks, b with c breaks: (0, 3) is ahead of (1, 2).
        net = read("in p 2\ngate a not p:0\ngate b not p:0\ngate c not p:1\ngate d not p:1\nout y b c\nout z a d")
        self.same(bears(net, 2, "safe"), ("breaks", (0, 3), 0))

    def test_turned_gates_may_undo_one_another(self):
        net = read("in p 1\ngate a not p\ngate b not a\nsure c or b p\nout y c")
        self.same(bears(net, 1, "right"), ("breaks", (0,), 0))
        self.same(bears(net, 2, "right"), ("breaks", (0,), 0))

    def test_sure_gates_are_never_turned(self):
        net = read("in p 1\nsure a not p\nsure b not a\nout y b a b")
        for level in plain.LEVELS:
            for many in range(4):
                self.same(bears(net, many, level), ("bears",))
        net = read("in p 3\nsure a not p:0\ngate b not p:1\ngate c not p:2\nout y a b c")
        self.same(bears(net, 2, "right"), ("breaks", (1, 2), 0))

    def test_two_sure_gates_of_a_pair(self):
        net = read("in p 2\nsure a not p:0\ngate b not p:1\nout y a b")
        self.same(bears(net, 3, "safe"), ("bears",))
        self.same(bears(net, 1, "right"), ("breaks", (1,), 0))

    def test_an_out_that_is_read_as_none_hides_no_other_out(self):
        net = read("in p 2\ngate a not p:0\ngate b not p:1\nout y a b\nout z a")
        self.same(bears(net, 1, "safe"), ("breaks", (0,), 0))
        net = read("in p 2\ngate a not p:0\ngate b not p:1\nout z a\nout y a b")
        self.same(bears(net, 1, "safe"), ("breaks", (0,), 0))

    def test_nets_without_gates(self):
        net = read("in p 1\nin q 3\nout y p\nout z q:0 q:1 q:2")
        for level in plain.LEVELS:
            for many in range(4):
                self.same(bears(net, many, level), ("bears",))

    def test_fewer_gates_than_faults(self):
        net = read(PAIRS)
        self.same(bears(net, 3, "safe"), ("breaks", (0, 1), 0))
        net = read("in p 1\ngate a not p\nout y p")
        self.same(bears(net, 3, "right"), ("bears",))

    def test_as_many_gates_as_are_promised(self):
        for level in plain.LEVELS:
            net = noughts(24, 3)
            self.same(bears(net, 2, level), ("bears",))
            self.same(bears(net, 3, level), ("breaks", (21, 22, 23), 1))
            self.same(bears(noughts(24, 4), 3, level), ("bears",))
            self.same(bears(noughts(57, 2), 1, level), ("bears",))
            self.same(bears(noughts(57, 2), 2, level), ("breaks", (55, 56), 1))

    def test_gates_beyond_sure_ones(self):
        # Sure gates aren't among the twenty-four.
        ins, gates, outs = noughts(24, 3)
        gates = gates + [("not", (0,), True)] * 33
        self.same(bears((ins, gates, outs), 3, "safe"), ("breaks", (21, 22, 23), 1))

    def test_six_ins(self):
        gates = [("and", (0, 1), True)] + [("and", (place + 4, place), True) for place in range(2, 6)]
        gates = gates + [("xor", (0, 0), False), ("and", (10, 11), True)]
        net = ([(name, 1) for name in "pqrstu"], gates, [("y", (12,))])
        for level in plain.LEVELS:
            self.same(bears(net, 1, level), ("breaks", (5,), 63))


class AgainstPlainTrial(Checked):

    def test_bears(self):
        seen = {}
        for seed in range(220):
            net = plain.sound_net(seed)
            self.assertTrue(is_sound(net))
            for level in plain.LEVELS:
                for many in range(4):
                    due = plain.bears(net, many, level)
                    with self.subTest(net=net, many=many, level=level):
                        self.same(bears(net, many, level), due)
                    size = len(due[1]) if due[0] == "breaks" else 0
                    seen[(level, size)] = seen.get((level, size), 0) + 1
        # Were some case never met, the trial would show little.
        for level in plain.LEVELS:
            for size in range(3):
                self.assertGreater(seen.get((level, size), 0), 3)

    def test_what_breaks_only_by_three(self):
        for last in (1, 2, 3):
            for count in (3, 4, 5):
                net = noughts(count, last)
                for level in plain.LEVELS:
                    for many in range(4):
                        self.same(bears(net, many, level), plain.bears(net, many, level))
        self.same(bears(noughts(4, 3), 3, "safe"), ("breaks", (1, 2, 3), 1))

    def test_matters(self):
        hidden = 0
        for seed in range(500):
            net = plain.sound_net(seed, 6)
            due = plain.matters(net)
            with self.subTest(net=net):
                self.same(matters(net), due)
            hidden += sum(1 for place, wrong, none in due if wrong and none)
        self.assertGreater(hidden, 10)


class Matters(Checked):

    def test_one_wire(self):
        self.same(matters(read("in p 1\nin q 1\ngate a and p q\ngate b or a p\nout y b")), [(0, 2, 0), (1, 4, 0)])

    def test_a_pair(self):
        self.same(matters(read(PAIRS)), [(0, 0, 2), (1, 0, 2)])

    def test_threes(self):
        self.same(matters(read(THREES)), [(0, 0, 0), (1, 0, 0), (2, 0, 0)])

    def test_wrong_is_ahead_of_none(self):
        net = read("in p 2\nin q 1\ngate a not p:0\ngate b not p:1\nsure c and a q\nout y a b\nout z c")
        self.same(matters(net), [(0, 2, 2), (1, 0, 4)])
        turned_about = (net[0], net[1], list(reversed(net[2])))
        self.same(matters(turned_about), [(0, 2, 2), (1, 0, 4)])

    def test_sure_gates_are_left_out(self):
        net = read("in p 1\nsure a not p\ngate b not p\nsure c not b\ngate d not c\nout y a\nout z d")
        self.same(matters(net), [(1, 2, 0), (3, 2, 0)])
        self.same(matters(read("in p 1\nsure a not p\nout y a")), [])

    def test_nets_without_gates(self):
        self.same(matters(read("in p 1\nout y p")), [])

    def test_a_gate_that_nothing_reads(self):
        self.same(matters(read("in p 1\ngate a not p\nout y p")), [(0, 0, 0)])


class HandedIn(Checked):

    def test_nothing_is_changed(self):
        for seed in range(20):
            net = plain.sound_net(seed)
            before = copy.deepcopy(net)
            parts = list(net)
            for ask in (lambda: bears(net, 2, "right"), lambda: bears(net, 3, "safe"), lambda: matters(net)):
                first = ask()
                self.same(net, before)
                for one, other in zip(net, parts):
                    self.assertIs(one, other)
                self.same(ask(), first)

    def test_told_lists_are_the_askers_own(self):
        net = read(PAIRS)
        self.assertTrue(plain.apart([net, matters(net), matters(net)]))
        matters(net).clear()
        self.same(matters(net), [(0, 0, 2), (1, 0, 2)])


if __name__ == "__main__":
    unittest.main()
