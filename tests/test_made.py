"""Points 13 and 14, and 2 and 3 of them: nets made in threes, in pairs, with votes, and the size of a net."""

import copy
import unittest

import plain
from bearfaults.borne import bears
from bearfaults.errors import Full, NotPlain
from bearfaults.made import in_pairs, in_threes, size, with_votes
from bearfaults.reader import read
from bearfaults.runs import columns, is_sound
from bearfaults.texts import shown

MAKERS = (in_threes, in_pairs, with_votes)
# How many gates stand in the place of each, by the maker.
TIMES = ((in_threes, 3), (in_pairs, 2), (with_votes, 6))


def name_of(place):
    return "g" + "abcdefghijklmnopqrst"[place]


def made_text(net, lanes, voted):
    """The net with each wire told on the lanes (letters), as a text: written by names alone, never by numbers."""
    written = [[f"{name}:{figure}" for figure in range(len(lanes))] for name, width in net[0]]
    rows = [f"in {name} {len(lanes)}" for name, width in net[0]]
    for place, (kind, wires, sure) in enumerate(net[1]):
        word = "sure" if sure else "gate"
        copies = [name_of(place) + lane for lane in lanes]
        for figure, name in enumerate(copies):
            rows.append(" ".join([word, name, kind] + [written[wire][figure] for wire in wires]))
        if voted:
            votes = [name + "v" for name in copies]
            rows.extend(" ".join([word, name, "vote"] + copies) for name in votes)
            copies = votes
        written.append(copies)
    rows.extend(" ".join(["out", name] + written[wires[0]]) for name, wires in net[2])
    return "\n".join(rows)


def chain(count, kind="not"):
    """A plain net of so many gates, one behind the other."""
    gates = [(kind, (place,) * plain.COUNTS[kind], False) for place in range(count)]
    return ([("p", 1)], gates, [("y", (count,))])


class Checked(unittest.TestCase):

    def same(self, value, due):
        self.assertEqual(plain.kinds(value), plain.kinds(due))


class WholeNets(Checked):

    # Two ins, gates of which one is sure, a vote that reads a wire twice, and an out that reads an in.
    net = (
        [("p", 1), ("q", 1)],
        [("and", (0, 1), False), ("not", (2,), True), ("vote", (3, 0, 3), False)],
        [("y", (4,)), ("z", (1,)), ("w", (3,))],
    )

    def test_in_threes(self):
        self.same(in_threes(self.net), (
            [("p", 3), ("q", 3)],
            [
                ("and", (0, 3), False), ("and", (1, 4), False), ("and", (2, 5), False),
                ("not", (6,), True), ("not", (7,), True), ("not", (8,), True),
                ("vote", (9, 0, 9), False), ("vote", (10, 1, 10), False), ("vote", (11, 2, 11), False),
            ],
            [("y", (12, 13, 14)), ("z", (3, 4, 5)), ("w", (9, 10, 11))],
        ))

    def test_in_pairs(self):
        self.same(in_pairs(self.net), (
            [("p", 2), ("q", 2)],
            [
                ("and", (0, 2), False), ("and", (1, 3), False),
                ("not", (4,), True), ("not", (5,), True),
                ("vote", (6, 0, 6), False), ("vote", (7, 1, 7), False),
            ],
            [("y", (8, 9)), ("z", (2, 3)), ("w", (6, 7))],
        ))

    def test_with_votes(self):
        self.same(with_votes(self.net), (
            [("p", 3), ("q", 3)],
            [
                ("and", (0, 3), False), ("and", (1, 4), False), ("and", (2, 5), False),
                ("vote", (6, 7, 8), False), ("vote", (6, 7, 8), False), ("vote", (6, 7, 8), False),
                ("not", (9,), True), ("not", (10,), True), ("not", (11,), True),
                ("vote", (12, 13, 14), True), ("vote", (12, 13, 14), True), ("vote", (12, 13, 14), True),
                ("vote", (15, 0, 15), False), ("vote", (16, 1, 16), False), ("vote", (17, 2, 17), False),
                ("vote", (18, 19, 20), False), ("vote", (18, 19, 20), False), ("vote", (18, 19, 20), False),
            ],
            [("y", (21, 22, 23)), ("z", (3, 4, 5)), ("w", (15, 16, 17))],
        ))

    def test_without_gates(self):
        net = read("in p 1\nin q 1\nout y q\nout z q\nout w p")
        due = ([("p", 3), ("q", 3)], [], [("y", (3, 4, 5)), ("z", (3, 4, 5)), ("w", (0, 1, 2))])
        self.same(in_threes(net), due)
        self.same(with_votes(net), due)
        self.same(in_pairs(net), ([("p", 2), ("q", 2)], [], [("y", (2, 3)), ("z", (2, 3)), ("w", (0, 1))]))

    def test_one_gate(self):
        net = read("in p 1\nsure a not p\nout y a")
        nots = [("not", (0,), True), ("not", (1,), True), ("not", (2,), True)]
        self.same(in_threes(net), ([("p", 3)], nots, [("y", (3, 4, 5))]))
        self.same(in_pairs(net), ([("p", 2)], nots[:2], [("y", (2, 3))]))
        self.same(with_votes(net), ([("p", 3)], nots + [("vote", (3, 4, 5), True)] * 3, [("y", (6, 7, 8))]))

    def test_against_nets_written_by_names(self):
        for seed in range(200):
            net = plain.plain_net(seed)
            with self.subTest(net=net):
                self.same(in_threes(net), read(made_text(net, "klm", False)))
                self.same(in_pairs(net), read(made_text(net, "kl", False)))
                self.same(with_votes(net), read(made_text(net, "klm", True)))

    def test_a_made_net_is_read_again(self):
        for seed in range(40):
            net = plain.plain_net(seed)
            for make in MAKERS:
                made = make(net)
                self.same(read(shown(made)), made)


class Refused(Checked):

    not_plain = (
        "in p 2\nout y p:0",
        "in p 3\nout y p:0",
        "in p 1\nin q 2\nout y p",
        "in p 1\nout y p p",
        "in p 1\nout y p p p",
        "in p 1\ngate a not p\nout y a\nout z a p",
        "in p 3\ngate a not p:0\ngate b not p:1\ngate c not p:2\nout y a b c",
        "in p 2\ngate a not p:0\ngate b not p:1\nout y a b",
    )

    def test_not_plain(self):
        for text in self.not_plain:
            for make in MAKERS:
                with self.subTest(text=text, make=make.__name__):
                    self.assertRaises(NotPlain, make, read(text))

    def test_made_nets_are_not_plain(self):
        for make in MAKERS:
            for again in MAKERS:
                self.assertRaises(NotPlain, again, make(chain(2)))

    def test_full_just_above_the_limit(self):
        for make, times in TIMES:
            most = 60 // times
            with self.subTest(make=make.__name__):
                self.assertEqual(len(make(chain(most))[1]), 60)
                self.assertEqual(len(make(chain(most - 1))[1]), 60 - times)
                self.assertRaises(Full, make, chain(most + 1))
                self.assertRaises(Full, make, chain(60))

    def test_sure_gates_votes_and_unread_gates_count(self):
        for make, times in TIMES:
            most = 60 // times
            for kind in plain.COUNTS:
                for sure in (False, True):
                    gate = (kind, (0,) * plain.COUNTS[kind], sure)
                    net = ([("p", 1)], [gate] * most, [("y", (0,))])
                    self.assertEqual(len(make(net)[1]), 60)
                    net[1].append(gate)
                    self.assertRaises(Full, make, net)

    def test_a_net_of_the_limit_does_the_same(self):
        for make, times in TIMES:
            for count in (60 // times, 60 // times - 1):
                net = chain(count)
                self.same(columns(make(net)), columns(net))
                self.same(read(shown(make(net))), make(net))

    def test_not_plain_is_ahead_of_full(self):
        for make, times in TIMES:
            ins, gates, outs = chain(60 // times + 1)
            self.assertRaises(NotPlain, make, (ins, gates, [("y", (0, 1))]))
            self.assertRaises(NotPlain, make, (ins, gates, outs + [("z", (0, 1, 2))]))
            wide = [("p", 1), ("q", 2)]
            self.assertRaises(NotPlain, make, (wide, gates, outs))

    def test_what_is_refused_stays(self):
        for make, times in TIMES:
            for net in (chain(61), read("in p 2\nout y p:0")):
                before = copy.deepcopy(net)
                self.assertRaises((Full, NotPlain), make, net)
                self.same(net, before)


class Promise(Checked):

    def test_made_nets_do_what_the_plain_one_does(self):
        for seed in range(120):
            net = plain.plain_net(seed)
            for make in MAKERS:
                with self.subTest(net=net, make=make.__name__):
                    self.assertIs(is_sound(make(net)), True)
                    self.same(columns(make(net)), columns(net))

    def test_threes_and_votes_bear_one_fault(self):
        broken = 0
        for seed in range(60):
            net = plain.plain_net(seed, 5)
            broken += bears(net, 1, "right") != ("bears",)
            for make in (in_threes, with_votes):
                with self.subTest(net=net, make=make.__name__):
                    self.same(bears(make(net), 1, "right"), ("bears",))
                    self.same(plain.bears(make(net), 1, "right"), ("bears",))
        # Were the plain nets to bear it by themselves, the trial would show little.
        self.assertGreater(broken, 30)

    def test_pairs_say_where_one_fault_spoils_them(self):
        spoiled = 0
        for seed in range(60):
            net = plain.plain_net(seed, 5)
            made = in_pairs(net)
            with self.subTest(net=net):
                self.same(bears(made, 1, "safe"), ("bears",))
                self.same(plain.bears(made, 1, "safe"), ("bears",))
            spoiled += bears(made, 1, "right") != ("bears",)
        self.assertGreater(spoiled, 30)


class Size(Checked):

    def sized(self, text, due):
        self.same(size(read(text)), due)

    def test_without_gates(self):
        self.sized("in p 1\nout y p", (0, 0, 0, 0))
        self.sized("in p 3\nin q 2\nout y p:0 p:1 p:2\nout z q:1", (0, 0, 0, 0))

    def test_gates_votes_sure_ones(self):
        self.sized("in p 1\ngate a not p\nout y a", (1, 0, 0, 1))
        self.sized("in p 1\nsure a not p\nout y a", (1, 0, 1, 1))
        self.sized("in p 3\ngate a vote p:0 p:1 p:2\nout y a", (1, 1, 0, 1))
        self.sized("in p 3\nsure a vote p:0 p:1 p:2\ngate b vote a a p:0\nsure c and a b\nout y c", (3, 2, 2, 3))

    def test_gates_side_by_side(self):
        self.sized("in p 3\ngate a not p:0\ngate b not p:1\ngate c not p:2\nout y a b c", (3, 0, 0, 1))

    def test_the_longest_way(self):
        rows = "in p 1\nin q 1\ngate a not p\ngate b not a\n"
        self.sized(rows + "gate c and q b\ngate d or q p\nout y c", (4, 0, 0, 3))
        self.sized(rows + "gate c and b q\ngate d or q p\nout y c\nout z d", (4, 0, 0, 3))
        self.sized(rows + "gate c and p q\ngate d or b c\nout y d", (4, 0, 0, 3))
        self.sized(rows + "gate c and p q\ngate d vote p q c\nout y d", (4, 1, 0, 2))

    def test_any_wire_of_any_out(self):
        rows = "in p 1\ngate a not p\ngate b not a\ngate c not b\n"
        for out, deep in (("p a", 1), ("b p a", 2), ("p c", 3), ("c p", 3), ("a c b", 3), ("p p p", 0)):
            self.sized(rows + f"out y {out}", (3, 0, 0, deep))
        self.sized(rows + "out y a\nout z b", (3, 0, 0, 2))
        self.sized(rows + "out y b\nout z a", (3, 0, 0, 2))
        self.sized(rows + "out y p\nout z p c", (3, 0, 0, 3))

    def test_gates_that_no_out_reads(self):
        self.sized("in p 1\ngate a not p\ngate b not a\nout y p", (2, 0, 0, 0))
        self.sized("in p 1\ngate a not p\nsure b vote a a a\nsure c vote b b b\nout y a", (3, 2, 2, 1))

    def test_sure_gates_are_on_the_way_too(self):
        self.sized("in p 1\nsure a not p\nsure b not a\nout y b", (2, 0, 2, 2))

    def test_the_most_gates(self):
        self.same(size(chain(60)), (60, 0, 0, 60))
        self.same(size(chain(60, "vote")), (60, 60, 0, 60))

    def test_sizes_of_made_nets(self):
        for seed in range(80):
            net = plain.plain_net(seed)
            gates, votes, sure, deep = size(net)
            self.same(size(in_threes(net)), (3 * gates, 3 * votes, 3 * sure, deep))
            self.same(size(in_pairs(net)), (2 * gates, 2 * votes, 2 * sure, deep))
            self.same(size(with_votes(net)), (6 * gates, 3 * votes + 3 * gates, 6 * sure, 2 * deep))

    def test_depth_against_all_ways(self):
        for seed in range(80):
            net = plain.any_net(seed)
            wires = sum(width for name, width in net[0])

            def ways(wire):
                """How many gates each way to the wire has."""
                if wire < wires:
                    return [0]
                return [1 + count for ahead in net[1][wire - wires][1] for count in ways(ahead)]

            due = max(count for name, reads in net[2] for wire in reads for count in ways(wire))
            self.same(size(net)[3], due)


class HandedIn(Checked):

    def test_nothing_is_changed(self):
        for seed in range(20):
            net = plain.plain_net(seed)
            before = copy.deepcopy(net)
            parts = list(net)
            for ask in MAKERS + (size,):
                first = ask(net)
                self.same(net, before)
                for one, other in zip(net, parts):
                    self.assertIs(one, other)
                self.same(ask(net), first)

    def test_told_lists_are_new(self):
        for net in (chain(3), read("in p 1\nout y p")):
            for make in MAKERS:
                made = make(net)
                self.assertTrue(plain.apart([net, made, make(net)]))
                before = copy.deepcopy(made)
                for part in copy.copy(net):
                    part.append("more")
                self.same(made, before)
                for part in net:
                    part.pop()


if __name__ == "__main__":
    unittest.main()
