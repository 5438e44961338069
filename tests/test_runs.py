"""Points 8 and 9, and 2 of them: nets run, outs read, sound nets, columns."""

import copy
import itertools
import unittest

import plain
from bearfaults.reader import read
from bearfaults.runs import columns, is_sound, run, told

BIT_ROWS = [bits for width in (1, 2, 3) for bits in itertools.product((0, 1), repeat=width)]

# What a gate tells at the bits of its wires, read as a number, written out.
TABLES = {
    "not": (1, 0),
    "and": (0, 0, 0, 1),
    "or": (0, 1, 1, 1),
    "xor": (0, 1, 1, 0),
    "vote": (0, 0, 0, 1, 0, 1, 1, 1),
}


def one_gate(kind, wires, ins, sure=False):
    """A net of ins of one wire and one gate, which is its out."""
    return ([("pqr"[place], 1) for place in range(ins)], [(kind, wires, sure)], [("y", (ins,))])


class Checked(unittest.TestCase):

    def same(self, value, due):
        self.assertEqual(plain.kinds(value), plain.kinds(due))


class Gates(Checked):

    def test_each_kind_at_all_bits(self):
        for kind, table in TABLES.items():
            count = plain.COUNTS[kind]
            for sure in (False, True):
                net = one_gate(kind, tuple(range(count)), count, sure)
                for number, bits in enumerate(itertools.product((0, 1), repeat=count)):
                    with self.subTest(kind=kind, bits=bits, sure=sure):
                        self.same(run(net, bits, (), ()), [(table[number],)])
                        self.same(run(net, bits, (0,), ()), [(1 - table[number],)])

    def test_a_wire_told_twice_counts_twice(self):
        for bit in (0, 1):
            self.same(run(one_gate("and", (0, 0), 1), (bit,), (), ()), [(bit,)])
            self.same(run(one_gate("or", (0, 0), 1), (bit,), (), ()), [(bit,)])
            self.same(run(one_gate("xor", (0, 0), 1), (bit,), (), ()), [(0,)])
            self.same(run(one_gate("vote", (0, 0, 0), 1), (bit,), (), ()), [(bit,)])
            for other in (0, 1):
                for wires in ((0, 0, 1), (0, 1, 0), (1, 0, 0)):
                    self.same(run(one_gate("vote", wires, 2), (bit, other), (), ()), [(bit,)])

    def test_a_wire_told_twice_of_an_out(self):
        net = read("in p 1\nin q 1\nout y p p\nout z p q p\nout w q q q")
        for bits in itertools.product((0, 1), repeat=2):
            p, q = bits
            self.same(run(net, bits, (), ()), [(p, p), (p, q, p), (q, q, q)])
            self.same(columns(net)[1][2 * p + q], p)

    def test_gates_read_gates(self):
        net = read("in p 1\nin q 1\ngate a and p q\ngate b not a\ngate c xor b p\nout y c b a")
        self.same(run(net, (0, 0), (), ()), [(1, 1, 0)])
        self.same(run(net, (0, 1), (), ()), [(1, 1, 0)])
        self.same(run(net, (1, 0), (), ()), [(0, 1, 0)])
        self.same(run(net, (1, 1), (), ()), [(1, 0, 1)])

    def test_nets_without_gates(self):
        net = ([("p", 1), ("q", 2), ("r", 3)], [], [("y", (5, 0)), ("z", (2,)), ("w", (1, 2, 3))])
        self.same(run(net, (1, 0, 1), (), ()), [(1, 1), (0,), (0, 0, 1)])
        self.same(run(net, (1, 0, 1), (), (2, 5)), [(0, 1), (1,), (0, 1, 1)])
        self.same(run(([("p", 1)], [], [("y", (0,))]), (0,), (), ()), [(0,)])


class Turned(Checked):

    net = read("in p 1\ngate a not p\nsure b not a\ngate c not b\nsure d and c p\nout y a b c\nout z d")

    def test_a_turned_gate_is_read_turned(self):
        self.same(run(self.net, (0,), (), ()), [(1, 0, 1), (0,)])
        self.same(run(self.net, (0,), (0,), ()), [(0, 1, 0), (0,)])
        self.same(run(self.net, (0,), (2,), ()), [(1, 0, 0), (0,)])
        self.same(run(self.net, (1,), (2,), ()), [(0, 1, 1), (1,)])

    def test_sure_gates_are_turned_too(self):
        self.same(run(self.net, (0,), (1,), ()), [(1, 1, 0), (0,)])
        self.same(run(self.net, (0,), (3,), ()), [(1, 0, 1), (1,)])

    def test_several_turned_gates(self):
        self.same(run(self.net, (0,), (0, 1), ()), [(0, 0, 1), (0,)])
        self.same(run(self.net, (1,), (0, 1, 2, 3), ()), [(1, 1, 1), (0,)])

    def test_bad_wires_of_ins_of_each_width(self):
        outs = [("y", (0,)), ("z", (1, 2)), ("w", (3, 4, 5)), ("v", (6,))]
        net = ([("p", 1), ("q", 2), ("r", 3)], [("vote", (3, 4, 5), False)], outs)
        for bits in itertools.product((0, 1), repeat=3):
            p, q, r = bits
            for count in range(7):
                for bad in itertools.combinations(range(6), count):
                    wires = [p, q, q, r, r, r]
                    for number in bad:
                        wires[number] = 1 - wires[number]
                    voted = 1 if sum(wires[3:]) > 1 else 0
                    due = [(wires[0],), tuple(wires[1:3]), tuple(wires[3:]), (voted,)]
                    self.same(run(net, bits, (), bad), due)

    def test_bad_wires_and_turned_gates(self):
        net = read("in p 2\ngate a not p:0\ngate b not p:1\nout y a b")
        self.same(run(net, (0,), (0,), (0,)), [(1, 1)])
        self.same(run(net, (0,), (0,), (1,)), [(0, 0)])
        self.same(run(net, (1,), (0, 1), (0, 1)), [(0, 0)])
        # 1 is the number of a gate's place and of an in's wire: each is taken for its own.
        self.same(run(net, (0,), (1,), ()), [(1, 0)])
        self.same(run(net, (0,), (), (0,)), [(0, 1)])

    def test_against_plain_trial(self):
        for seed in range(150):
            net = plain.any_net(seed)
            picks = plain.Picks(seed + 1000)
            wires = sum(width for name, width in net[0])
            for bits in plain.inputs(net):
                turned = tuple(place for place in range(len(net[1])) if picks.below(3) == 0)
                bad = tuple(number for number in range(wires) if picks.below(3) == 0)
                for some in ((), turned):
                    for others in ((), bad):
                        self.same(run(net, bits, some, others), plain.run(net, bits, some, others))

    def test_the_fullest_net(self):
        ins = [(name, 3) for name in "pqrstu"]
        gates = [("vote", (place, place + 9, place + 17), place % 7 == 0) for place in range(60)]
        outs = [("y", (75, 76, 77)), ("z", (70, 74)), ("w", (69,)), ("v", (60, 61, 62)), ("u", (3,)), ("t", (17, 18))]
        net = (ins, gates, outs)
        for bits in plain.inputs(net)[::7]:
            for turned in ((), (0, 7, 59), tuple(range(60))):
                for bad in ((), (0, 17), tuple(range(18))):
                    self.same(run(net, bits, turned, bad), plain.run(net, bits, turned, bad))


class Told(Checked):

    def test_all_rows_of_bits(self):
        due = {
            (0,): 0, (1,): 1,
            (0, 0): 0, (0, 1): None, (1, 0): None, (1, 1): 1,
            (0, 0, 0): 0, (0, 0, 1): 0, (0, 1, 0): 0, (1, 0, 0): 0,
            (0, 1, 1): 1, (1, 0, 1): 1, (1, 1, 0): 1, (1, 1, 1): 1,
        }
        self.assertEqual(sorted(due), sorted(BIT_ROWS))
        for bits, bit in due.items():
            with self.subTest(bits=bits):
                self.same(told(bits), bit)


class Columns(Checked):

    def test_the_first_ins_bit_is_the_highest(self):
        net = read("in p 1\nin q 2\nin r 3\nout y p\nout z q:1\nout w r:0")
        self.same(columns(net), [[0, 0, 0, 0, 1, 1, 1, 1], [0, 0, 1, 1, 0, 0, 1, 1], [0, 1, 0, 1, 0, 1, 0, 1]])

    def test_six_ins(self):
        net = ([(name, 1) for name in "pqrstu"], [], [("o" + name, (place,)) for place, name in enumerate("pqrstu")])
        for place, column in enumerate(columns(net)):
            self.same(column, [number // (32, 16, 8, 4, 2, 1)[place] % 2 for number in range(64)])

    def test_an_out_of_two_wires_that_are_unlike_at_some_input(self):
        net = read("in p 1\nin q 1\ngate a and p q\ngate b or p q\nout y a b\nout z a\nout w a b b")
        self.same(columns(net), [[0, None, None, 1], [0, 0, 0, 1], [0, 1, 1, 1]])
        self.same(is_sound(net), False)
        last = read("in p 1\nin q 1\ngate a and p q\ngate b xor a q\nout y q\nout z a p")
        self.same(columns(last), [[0, 1, 0, 1], [0, 0, None, 1]])
        self.same(is_sound(last), False)

    def test_an_out_that_is_never_read(self):
        net = read("in p 1\ngate a not p\nout y p a")
        self.same(columns(net), [[None, None]])
        self.same(is_sound(net), False)

    def test_sound_nets(self):
        texts = ("in p 1\nout y p", "in p 2\nout y p:0 p:1", "in p 1\nin q 1\nout y p q p\nout z q q",
                 "in p 1\nin q 1\ngate a and p q\ngate b and q p\nout y a b", "in p 3\ngate a not p:0\nout y p:1 a p:2")
        for text in texts:
            self.same(is_sound(read(text)), True)

    def test_sureness_is_nothing_to_soundness(self):
        for word in ("gate", "sure"):
            self.same(is_sound(read("in p 1\n%s a not p\nout y p a" % word)), False)
            self.same(is_sound(read("in p 1\n%s a not p\nout y a a" % word)), True)

    def test_unlike_at_one_input_of_64(self):
        ins = [(name, 1) for name in "pqrstu"]
        gates = [("and", (0, 1), False)] + [("and", (place + 4, place), False) for place in range(2, 6)]
        net = (ins, gates, [("y", (10, 10)), ("z", (10, 9))])
        column = columns(net)[1]
        self.same(column, [0] * 62 + [None, 1])
        self.same(is_sound(net), False)

    def test_against_plain_trial(self):
        seen = {True: 0, False: 0}
        for seed in range(200):
            net = plain.any_net(seed)
            due = [list(column) for column in zip(*[plain.reads(net, bits, ()) for bits in plain.inputs(net)])]
            self.same(columns(net), due)
            sound = all(None not in column for column in due)
            self.same(is_sound(net), sound)
            seen[sound] += 1
        self.assertGreater(min(seen.values()), 40)


class HandedIn(Checked):

    def test_nothing_is_changed(self):
        for seed in range(20):
            net = plain.any_net(seed)
            before = copy.deepcopy(net)
            parts = list(net)
            bits = plain.inputs(net)[-1]
            for ask in (lambda: run(net, bits, (0,), (0,)), lambda: columns(net), lambda: is_sound(net)):
                ask()
                self.same(net, before)
                for one, other in zip(net, parts):
                    self.assertIs(one, other)

    def test_told_lists_are_the_askers_own(self):
        net = read("in p 1\nin q 1\nout y p\nout z p\nout w q p")
        answers = [columns(net), columns(net), run(net, (0, 1), (), ()), run(net, (0, 1), (), ())]
        self.assertTrue(plain.apart([net] + answers))
        told_once = columns(net)
        told_once[0][0] = "gone"
        self.same(told_once[1], [0, 0, 1, 1])
        self.same(columns(net), [[0, 0, 1, 1], [0, 0, 1, 1], [0, None, None, 1]])
        ran = run(net, (0, 1), (), ())
        ran.clear()
        self.same(run(net, (0, 1), (), ()), [(0,), (0,), (1, 0)])


if __name__ == "__main__":
    unittest.main()
