"""Points 15 and 16, and 2 and 3 of them: nets that keep, and nets joined."""

import copy
import itertools
import unittest

import plain
from bearfaults.errors import Full, NoFit, NotThree, Twice
from bearfaults.joins import joined, keeps
from bearfaults.made import in_threes, with_votes
from bearfaults.reader import read
from bearfaults.runs import run
from bearfaults.texts import shown

THREES = "in p 3\ngate a not p:0\ngate b not p:1\ngate c not p:2\nout y a b c"
AND_LANES = "\ngate a and p:0 q:0\ngate b and p:1 q:1\ngate c and p:2 q:2\nout y a b c"
XOR_LANES = AND_LANES.replace(" and ", " xor ")
VOTES = "gate {0}a vote {0}:0 {0}:1 {0}:2\ngate {0}b vote {0}:0 {0}:1 {0}:2\ngate {0}c vote {0}:0 {0}:1 {0}:2"


def lost_by(wires, many_ins):
    """The text of a net of sure gates whose out has two wrong wires where just these ins' wires are all turned."""
    names = "pqrs"[:many_ins]
    rows = [f"in {name} 3" for name in names]
    rows += [f"sure v{name} vote {name}:0 {name}:1 {name}:2" for name in names]
    rows.append("sure ea xor vp vp")
    rows.append("sure eb not ea")
    last = "eb"
    for wire in wires:
        name, figure = names[wire // 3], wire % 3
        rows.append(f"sure d{name} xor v{name} {name}:{figure}")
        rows.append(f"sure e{name} and {last} d{name}")
        last = f"e{name}"
    rows.append(f"sure w xor vp {last}")
    rows.append("out y w w vp")
    return "\n".join(rows)


class Checked(unittest.TestCase):

    def same(self, value, due):
        self.assertEqual(plain.kinds(value), plain.kinds(due))


class Keeps(Checked):

    def told(self, text, due):
        self.same(keeps(read(text)), due)
        self.same(plain.keeps(read(text)), due)

    def test_nets_that_keep(self):
        self.told("in p 3\nout y p:0 p:1 p:2", ("keeps",))
        self.told("in p 3\nin q 3\nout y q:2 q:0 q:1\nout z p:0 p:1 p:2\nout w p:1 p:0 p:2", ("keeps",))
        self.told(THREES, ("keeps",))
        voted = VOTES.format("p") + "\n" + VOTES.format("q")
        lanes = "\ngate a and pa qa\ngate b and pb qb\ngate c and pc qc\nout y a b c"
        self.told("in p 3\nin q 3\n" + voted + lanes, ("keeps",))

    def test_an_out_of_one_wire_thrice(self):
        sure = "in p 3\nsure a vote p:0 p:1 p:2\nout y a a a"
        self.told(sure, ("keeps",))
        self.told(sure.replace("sure", "gate"), ("loses", (), (0,), 0))

    def test_nothing_turned(self):
        self.told("in p 3\nin q 3\nout y p:0 p:1 q:0", ("loses", (), (), 1))
        self.told("in p 3\nin q 3\nout y p:0 q:1 p:2", ("loses", (), (), 1))
        self.told("in p 3\nin q 3\nout y q:0 p:1 p:2", ("loses", (), (), 1))
        self.told("in p 3\nsure a not p:0\nout y p:0 p:1 a", ("loses", (), (), 0))
        self.told("in p 3\nin q 3\nsure a and p:0 q:0\nout z p:0 p:1 p:2\nout y p:0 p:1 a", ("loses", (), (), 2))
        self.told("in p 3\nin q 3\nsure a and p:0 q:0\nsure b not a\nsure c or a b\nsure d xor c a\nsure e and a d\n"
                  "out y a a e", ("loses", (), (), 3))

    def test_two_outs_that_lose_at_one_input(self):
        for wires in ("p:0 p:1 q:0", "p:0 q:1 p:2", "q:0 p:1 p:2"):
            self.told(f"in p 3\nin q 3\nout y {wires}\nout z {wires}", ("loses", (), (), 1))
        self.told("in p 3\ngate a not p:0\ngate b not p:1\nout y a a b\nout z a a b", ("loses", (), (0,), 0))
        self.told("in p 3\nout y p:0 p:0 p:1\nout z p:0 p:0 p:1", ("loses", (0,), (), 0))

    def test_nothing_turned_is_ahead_of_gates_and_bad_wires(self):
        # The gate, or an in's wire, turned would show it at input 0.
        self.told("in p 3\nin q 3\ngate a and p:0 q:0\nout y a a p:0", ("loses", (), (), 2))

    def test_by_a_gate(self):
        self.told("in p 3\ngate a not p:0\ngate b not p:1\nout y a a b", ("loses", (), (0,), 0))
        self.told("in p 3\ngate a not p:0\ngate b not p:1\nout y a b b", ("loses", (), (1,), 0))
        self.told("in p 3\ngate c not p:2\ngate a not p:0\ngate b not p:1\nout z a b c\nout y b a b",
                  ("loses", (), (2,), 0))

    def test_the_first_gate(self):
        self.told("in p 3\ngate a not p:0\ngate b not p:1\nout z b b a\nout y a a b", ("loses", (), (0,), 0))
        self.told("in p 3\nsure a not p:0\ngate b not p:1\nout z b b a\nout y a a b", ("loses", (), (1,), 0))

    def test_the_first_input_of_a_gate(self):
        # The turned gate shows only where the in is 1.
        rows = "in p 3\nin q 3\ngate n not p:0\nsure a and n q:0\nsure b and n q:0\nsure c not p:1\nsure d and c q:1\n"
        self.told(rows + "out y a b d", ("loses", (), (0,), 1))

    def test_gates_are_ahead_of_bad_wires(self):
        text = "in p 3\ngate a not p:2\ngate b not p:1\nout y p:0 p:0 p:1\nout z a a b"
        self.told(text, ("loses", (), (0,), 0))

    def test_sure_gates_are_not_turned(self):
        self.told("in p 3\nsure a not p:0\nsure b not p:1\nout y a a b", ("loses", (0,), (), 0))
        self.told("in p 3\nsure a not p:1\nsure b not p:0\nout y a a b", ("loses", (1,), (), 0))

    def test_a_wire_told_twice_counts_twice(self):
        self.told("in p 3\nout y p:0 p:0 p:1", ("loses", (0,), (), 0))
        self.told("in p 3\nout y p:0 p:2 p:2", ("loses", (2,), (), 0))
        self.told("in p 3\nin q 3\nout z p:0 p:1 p:2\nout y q:1 q:2 q:1", ("loses", (4,), (), 0))

    def test_bad_wires_of_two_ins(self):
        self.told("in p 3\nin q 3" + XOR_LANES, ("loses", (0, 4), (), 0))
        self.told("in p 3\nin q 3" + AND_LANES, ("loses", (0, 4), (), 3))
        self.told("in p 3\nin r 3\nin q 3" + AND_LANES, ("loses", (0, 7), (), 5))

    def test_fewer_bad_wires_first(self):
        self.told("in p 3\nin q 3" + XOR_LANES + "\nout z q:2 q:2 q:0", ("loses", (5,), (), 0))

    def test_bad_wires_by_their_numbers(self):
        self.told("in p 3\nout y p:2 p:2 p:0\nout z p:1 p:1 p:0", ("loses", (1,), (), 0))

    def test_at_most_one_wire_of_an_in(self):
        # Two bad wires of one in would show it.
        self.told("in p 3\nsure a vote p:0 p:1 p:2\nout y a a a", ("keeps",))
        self.told("in p 3\nin q 3\nsure a vote p:0 p:1 p:2\nsure b vote q:0 q:1 q:2\nout y a a a\nout z b b b",
                  ("keeps",))

    def test_every_set_of_bad_wires(self):
        for many_ins in (1, 2, 3):
            choices = [(None, 0, 1, 2)] * many_ins
            for figures in itertools.product(*choices):
                wires = tuple(place * 3 + figure for place, figure in enumerate(figures) if figure is not None)
                if wires:
                    self.same(keeps(read(lost_by(wires, many_ins))), ("loses", wires, (), 0))

    def test_bad_wires_of_four_ins(self):
        for wires in ((0, 3, 6, 9), (2, 5, 8, 11), (1, 3, 8, 10), (4, 6, 9), (2, 11), (9,)):
            self.same(keeps(read(lost_by(wires, 4))), ("loses", wires, (), 0))

    def test_not_three(self):
        texts = (
            "in p 1\nout y p p p",
            "in p 2\nout y p:0 p:1 p:0",
            "in p 3\nin q 1\nout y p:0 p:1 p:2",
            "in p 3\nout y p:0",
            "in p 3\nout y p:0 p:1",
            "in p 3\nout y p:0 p:1 p:2\nout z p:0",
            "in p 1\nout y p",
            "in p 2\nout y p:0 p:1",
            "in p 3\nin q 3\nout y p:0 p:1 q:0\nout z p:0 p:1",
        )
        for text in texts:
            with self.subTest(text=text):
                self.assertRaises(NotThree, keeps, read(text))

    def test_against_plain_trial(self):
        met = {}
        for seed in range(400):
            net = plain.threes_net(seed)
            due = plain.keeps(net)
            with self.subTest(net=net):
                self.same(keeps(net), due)
            how = due[0] if due[0] == "keeps" else (len(due[1]), len(due[2]))
            met[how] = met.get(how, 0) + 1
        # Were some way never met, the trial would show little.
        for how in ("keeps", (0, 0), (0, 1), (1, 0), (2, 0)):
            self.assertGreater(met.get(how, 0), 5, how)

    def test_nets_of_one_in_made_in_threes_keep(self):
        for seed in range(60):
            net = plain.plain_net(seed)
            if len(net[0]) == 1:
                self.same(keeps(in_threes(net)), ("keeps",))
                self.same(keeps(with_votes(net)), ("keeps",))


ONE = "in p 2\nin q 1\ngate a not q\nsure b and p:0 a\nout y b\nout z p:0 p:1\nout w a b q"
OTHER = "in r 1\nin s 2\nin t 1\ngate a or r s:1\nsure b vote t a s:0\nout u b\nout v s:0 r"
ONE_INS = [("p", 2), ("q", 1)]


class WholeNets(Checked):

    def join(self, pairs, due):
        one, other = read(ONE), read(OTHER)
        self.same(joined(one, other, pairs), due)

    def test_no_pairs(self):
        self.join([], (
            ONE_INS + [("r", 1), ("s", 2), ("t", 1)],
            [("not", (2,), False), ("and", (0, 7), True), ("or", (3, 5), False), ("vote", (6, 9, 4), True)],
            [("y", (8,)), ("z", (0, 1)), ("w", (7, 8, 2)), ("u", (10,)), ("v", (4, 3))],
        ))

    def test_one_pair(self):
        self.join([(0, 0)], (
            ONE_INS + [("s", 2), ("t", 1)],
            [("not", (2,), False), ("and", (0, 6), True), ("or", (7, 4), False), ("vote", (5, 8, 3), True)],
            [("z", (0, 1)), ("w", (6, 7, 2)), ("u", (9,)), ("v", (3, 7))],
        ))

    def test_an_out_that_reads_ins(self):
        self.join([(1, 1)], (
            ONE_INS + [("r", 1), ("t", 1)],
            [("not", (2,), False), ("and", (0, 5), True), ("or", (3, 1), False), ("vote", (4, 7, 0), True)],
            [("y", (6,)), ("w", (5, 6, 2)), ("u", (8,)), ("v", (0, 3))],
        ))

    def test_several_pairs_in_any_order(self):
        due = (
            ONE_INS + [("r", 1)],
            [("not", (2,), False), ("and", (0, 4), True), ("or", (3, 1), False), ("vote", (5, 6, 0), True)],
            [("w", (4, 5, 2)), ("u", (7,)), ("v", (0, 3))],
        )
        self.join([(1, 1), (0, 2)], due)
        self.join([(0, 2), (1, 1)], due)

    def test_one_out_for_several_ins(self):
        self.join([(0, 2), (0, 0)], (
            ONE_INS + [("s", 2)],
            [("not", (2,), False), ("and", (0, 5), True), ("or", (6, 4), False), ("vote", (6, 7, 3), True)],
            [("z", (0, 1)), ("w", (5, 6, 2)), ("u", (8,)), ("v", (3, 6))],
        ))

    def test_all_ins_named(self):
        self.join([(0, 0), (1, 1), (0, 2)], (
            ONE_INS,
            [("not", (2,), False), ("and", (0, 3), True), ("or", (4, 1), False), ("vote", (4, 5, 0), True)],
            [("w", (3, 4, 2)), ("u", (6,)), ("v", (0, 4))],
        ))

    def test_wires_of_three(self):
        one = read(THREES)
        other = read("in m 3\nin n 3\ngate a vote m:2 n:1 m:0\nout x m:1 m:0 n:2\nout k a a n:0")
        self.same(joined(one, other, [(0, 1)]), (
            [("p", 3), ("m", 3)],
            [("not", (0,), False), ("not", (1,), False), ("not", (2,), False), ("vote", (5, 7, 3), False)],
            [("x", (4, 3, 8)), ("k", (9, 9, 6))],
        ))
        self.same(joined(one, other, [(0, 0), (0, 1)]), (
            [("p", 3)],
            [("not", (0,), False), ("not", (1,), False), ("not", (2,), False), ("vote", (5, 4, 3), False)],
            [("x", (4, 3, 5)), ("k", (6, 6, 3))],
        ))

    def test_without_gates(self):
        one = read("in p 2\nout y p:1 p:0")
        other = read("in q 2\nout z q:0\nout w q:1 q:0")
        self.same(joined(one, other, [(0, 0)]), ([("p", 2)], [], [("z", (1,)), ("w", (0, 1))]))
        self.same(joined(one, other, []), (
            [("p", 2), ("q", 2)], [], [("y", (1, 0)), ("z", (2,)), ("w", (3, 2))]))

    def test_a_net_with_itself(self):
        net = read("in p 1\ngate a not p\nout y a")
        self.same(joined(net, net, [(0, 0)]), (
            [("p", 1)], [("not", (0,), False), ("not", (1,), False)], [("y", (2,))]))


def other_names(net):
    """The net with other names of ins and outs."""
    ins = [("e" + name, width) for name, width in net[0]]
    return (ins, net[1], [("e" + name, wires) for name, wires in net[2]])


def fitting(one, other, picks):
    """Some pairs of outs and ins of as many wires, no in twice."""
    pairs = []
    for place, (name, width) in enumerate(other[0]):
        fits = [out for out, (told, wires) in enumerate(one[2]) if len(wires) == width]
        if fits and picks.below(4):
            pairs.append((fits[picks.below(len(fits))], place))
    return pairs if picks.below(2) else pairs[::-1]


def in_words(name, width):
    return [name] if width == 1 else [f"{name}:{figure}" for figure in range(width)]


def gate_rows(net, written, head):
    """The rows of the net's gates, whose names begin with the head; puts these names behind those written."""
    rows = []
    for place, (kind, wires, sure) in enumerate(net[1]):
        name = head + "abcdefghijkl"[place]
        rows.append(" ".join(["sure" if sure else "gate", name, kind] + [written[wire] for wire in wires]))
        written.append(name)
    return rows


def out_rows(outs, written):
    return [" ".join(["out", name] + [written[wire] for wire in wires]) for name, wires in outs]


def joined_text(one, other, pairs):
    """The whole as a text: written by names alone, never by numbers."""
    first = [word for name, width in one[0] for word in in_words(name, width)]
    rows = [f"in {name} {width}" for name, width in one[0]]
    named = {place: out for out, place in pairs}
    rows += [f"in {name} {width}" for place, (name, width) in enumerate(other[0]) if place not in named]
    rows += gate_rows(one, first, "g")
    second = []
    for place, (name, width) in enumerate(other[0]):
        if place in named:
            second += [first[wire] for wire in one[2][named[place]][1]]
        else:
            second += in_words(name, width)
    rows += gate_rows(other, second, "h")
    rows += out_rows([out for place, out in enumerate(one[2]) if place not in named.values()], first)
    return "\n".join(rows + out_rows(other[2], second))


class Mixed(Checked):

    def joins(self, count):
        """Mixed nets and pairs whose whole is no larger than a net may be."""
        for seed in range(count):
            one = plain.any_net(seed, 6)
            other = other_names(plain.any_net(seed + 1000, 6))
            pairs = fitting(one, other, plain.Picks(seed))
            left = len(one[0]) + len(other[0]) - len(pairs)
            outs = len(one[2]) + len(other[2]) - len(set(out for out, place in pairs))
            if left <= 6 and outs <= 6:
                yield one, other, pairs

    def test_against_nets_written_by_names(self):
        met = {}
        for one, other, pairs in self.joins(400):
            with self.subTest(one=one, other=other, pairs=pairs):
                whole = joined(one, other, pairs)
                self.same(whole, read(joined_text(one, other, pairs)))
                self.same(read(shown(whole)), whole)
            met[len(pairs)] = met.get(len(pairs), 0) + 1
        for many in (0, 1, 2, 3):
            self.assertGreater(met.get(many, 0), 5, many)

    def test_the_whole_runs_as_both_do(self):
        for one, other, pairs in self.joins(80):
            whole = joined(one, other, pairs)
            named = {place: out for out, place in pairs}
            for bits in plain.inputs(whole):
                between = run(one, bits[:len(one[0])], (), ())
                left = list(bits[len(one[0]):])
                handed, bad = [], []
                wire = 0
                for place, (name, width) in enumerate(other[0]):
                    handed.append(0 if place in named else left.pop(0))
                    if place in named:
                        # The in's bit is 0, so a wire that is to tell 1 is a turned one.
                        bad += [wire + k for k, bit in enumerate(between[named[place]]) if bit]
                    wire += width
                due = [out for place, out in enumerate(between) if place not in named.values()]
                due += run(other, tuple(handed), (), tuple(bad))
                self.same(run(whole, bits, (), ()), due)

    def test_nets_that_keep_joined_keep(self):
        count = {}
        nets = [plain.threes_net(seed, "pq") for seed in range(60)]
        ones = [net for net in nets if keeps(net) == ("keeps",)][:16]
        nets = [other_names(plain.threes_net(seed, "pq", "yz")) for seed in range(60, 120)]
        others = [net for net in nets if keeps(net) == ("keeps",)][:16]
        for one, other in itertools.product(ones, others):
            pairs = fitting(one, other, plain.Picks(len(one[1]) + 7 * len(other[1])))
            whole = joined(one, other, pairs)
            with self.subTest(one=one, other=other, pairs=pairs):
                self.same(keeps(whole), ("keeps",))
            count[len(pairs)] = count.get(len(pairs), 0) + 1
        for many in (0, 1, 2):
            self.assertGreater(count.get(many, 0), 5, many)

    def test_keeping_nets_joined_by_plain_trial(self):
        one = read("in p 3\nin q 3\n" + VOTES.format("p") + "\n" + VOTES.format("q")
                   + "\ngate a xor pa qa\ngate b xor pb qb\ngate c xor pc qc\nout y a b c\nout z pa pb pc")
        other = read("in r 3\nin s 3\n" + VOTES.format("r") + "\n" + VOTES.format("s")
                     + "\ngate a or ra sa\ngate b or rb sb\ngate c or rc sc\nout w a b c")
        for pairs in ([], [(0, 0)], [(1, 1)], [(0, 1), (1, 0)], [(0, 0), (0, 1)]):
            self.same(plain.keeps(joined(one, other, pairs)), ("keeps",))


def ins_net(count, head, width=1):
    """A net of so many ins, whose names begin with the head, and one out."""
    ins = [(head + "abcdefg"[place], width) for place in range(count)]
    return (ins, [], [(head + "y", tuple(range(width)))])


def outs_net(count, head):
    """A net of one in and so many outs, all reading it."""
    return ([(head + "p", 1)], [], [(head + "abcdefg"[place], (0,)) for place in range(count)])


def gates_net(count, head):
    """A net of so many gates."""
    gates = [("not", (place,), place % 3 == 0) for place in range(count)]
    return ([(head + "p", 1)], gates, [(head + "y", (count,))])


class Refused(Checked):

    def refused(self, error, one, other, pairs):
        handed = (one, other, pairs)
        before = copy.deepcopy(handed)
        self.assertRaises(error, joined, one, other, pairs)
        self.same(handed, before)

    def test_widths(self):
        for one_width, other_width in itertools.product((1, 2, 3), repeat=2):
            one = ins_net(1, "o", one_width)
            other = ins_net(1, "e", other_width)
            if one_width == other_width:
                self.assertEqual(len(joined(one, other, [(0, 0)])[0]), 1)
            else:
                self.refused(NoFit, one, other, [(0, 0)])

    def test_widths_of_any_pair(self):
        one, other = read(ONE), read(OTHER)
        for pairs in ([(0, 1)], [(1, 0)], [(2, 2)], [(0, 0), (1, 2)], [(1, 1), (2, 0)], [(0, 0), (1, 1), (2, 2)]):
            self.refused(NoFit, one, other, pairs)

    def test_it_is_the_outs_width_not_the_ins(self):
        one = read("in p 3\nout y p:0")
        self.assertEqual(len(joined(one, read("in q 1\nout z q"), [(0, 0)])[0]), 1)
        self.refused(NoFit, one, read("in q 3\nout z q:0"), [(0, 0)])

    def test_an_in_told_twice(self):
        one = outs_net(2, "o")
        other = ins_net(2, "e")
        self.refused(Twice, one, other, [(0, 0), (1, 0)])
        self.refused(Twice, one, other, [(0, 1), (0, 0), (1, 1)])
        self.refused(Twice, one, other, [(0, 0), (0, 0)])

    def test_two_ins_of_one_name(self):
        one = read("in p 1\nin q 1\nout y p")
        other = read("in r 1\nin q 1\nout z q")
        self.refused(Twice, one, other, [])
        self.refused(Twice, one, other, [(0, 0)])
        # The in of that name is named, and so isn't one of the whole's.
        self.same(joined(one, other, [(0, 1)])[0], [("p", 1), ("q", 1), ("r", 1)])

    def test_two_outs_of_one_name(self):
        one = read("in p 1\nout y p\nout z p")
        other = read("in q 1\nin r 1\nout w q\nout z r")
        self.refused(Twice, one, other, [])
        self.refused(Twice, one, other, [(0, 0)])
        self.same(joined(one, other, [(1, 0)])[2], [("y", (0,)), ("w", (0,)), ("z", (1,))])

    def test_an_in_and_an_out_may_have_one_name(self):
        one = read("in p 1\nout y p")
        other = read("in y 1\nout p y")
        self.same(joined(one, other, []), ([("p", 1), ("y", 1)], [], [("y", (0,)), ("p", (1,))]))

    def test_too_many_ins(self):
        for ones in range(1, 6):
            self.assertEqual(len(joined(ins_net(ones, "o"), ins_net(6 - ones, "e"), [])[0]), 6)
            self.refused(Full, ins_net(ones, "o"), ins_net(7 - ones, "e"), [])
        self.assertEqual(len(joined(ins_net(6, "o"), ins_net(1, "e"), [(0, 0)])[0]), 6)
        self.refused(Full, ins_net(6, "o"), ins_net(1, "e"), [])
        self.assertEqual(len(joined(ins_net(1, "o"), ins_net(6, "e"), [(0, 3)])[0]), 6)
        self.refused(Full, ins_net(2, "o"), ins_net(6, "e"), [(0, 3)])
        self.assertEqual(len(joined(ins_net(6, "o"), ins_net(6, "e"), [(0, place) for place in range(6)])[0]), 6)
        self.refused(Full, ins_net(6, "o"), ins_net(6, "e"), [(0, place) for place in range(5)])

    def test_too_many_gates(self):
        for ones in (0, 1, 30, 59, 60):
            self.assertEqual(len(joined(gates_net(ones, "o"), gates_net(60 - ones, "e"), [])[1]), 60)
            self.assertEqual(len(joined(gates_net(ones, "o"), gates_net(60 - ones, "e"), [(0, 0)])[1]), 60)
            if ones > 0:
                self.refused(Full, gates_net(ones, "o"), gates_net(61 - ones, "e"), [])
                self.refused(Full, gates_net(ones, "o"), gates_net(61 - ones, "e"), [(0, 0)])

    def test_too_many_outs(self):
        for ones in range(1, 6):
            self.assertEqual(len(joined(outs_net(ones, "o"), outs_net(6 - ones, "e"), [])[2]), 6)
            self.refused(Full, outs_net(ones, "o"), outs_net(7 - ones, "e"), [])
            self.assertEqual(len(joined(outs_net(ones, "o"), outs_net(7 - ones, "e"), [(0, 0)])[2]), 6)
            self.refused(Full, outs_net(ones, "o"), outs_net(8 - ones, "e"), [(0, 0)])

    def test_an_out_named_twice_is_left_out_once(self):
        one = outs_net(6, "o")
        other = ([("ea", 1), ("eb", 1)], [], [("ey", (0,)), ("ez", (1,))])
        self.assertEqual(len(joined(one, other, [(0, 0), (5, 1)])[2]), 6)
        self.refused(Full, one, other, [(2, 0), (2, 1)])

    def test_widths_are_ahead_of_twice(self):
        one = read("in p 2\nin q 1\nout y p:0 p:1\nout z q")
        other = read("in r 2\nin q 1\nout z r:0")
        # An in told twice, ahead of the pair that doesn't fit or behind it; the names are twice there, too.
        self.refused(NoFit, one, other, [(0, 0), (0, 0), (1, 0)])
        self.refused(NoFit, one, other, [(1, 0), (0, 0), (0, 0)])
        self.refused(NoFit, one, other, [(1, 0)])
        self.refused(Twice, one, other, [(0, 0)])

    def test_widths_are_ahead_of_full(self):
        one = ins_net(6, "o", 2)
        self.refused(NoFit, one, ins_net(6, "e", 1), [(0, 0)])
        self.refused(Full, one, ins_net(6, "e", 2), [(0, 0)])

    def test_twice_is_ahead_of_full(self):
        self.refused(Twice, ins_net(4, "o"), ins_net(4, "o"), [])
        self.refused(Twice, gates_net(60, "o"), gates_net(2, "o"), [])
        self.refused(Twice, outs_net(6, "o"), outs_net(6, "o"), [(0, 0)])
        self.refused(Twice, ins_net(6, "o"), ins_net(6, "e"), [(0, 0), (0, 0)])
        one = ([("p", 1)], [], [("y", (0,))])
        other = ([(name, 1) for name in "abcdef"], [], [("y", (0,))])
        self.refused(Twice, one, other, [])


class HandedIn(Checked):

    def test_nothing_is_changed(self):
        for seed in range(30):
            net = plain.threes_net(seed)
            other = other_names(plain.threes_net(seed + 40))
            pairs = [(0, 0)]
            handed = (net, other, pairs)
            before = copy.deepcopy(handed)
            parts = list(net) + list(other)
            first = (keeps(net), joined(net, other, pairs))
            self.same(handed, before)
            for one, same in zip(parts, list(net) + list(other)):
                self.assertIs(one, same)
            self.same((keeps(net), joined(net, other, pairs)), first)

    def test_told_lists_are_new(self):
        one, other = read(ONE), read(OTHER)
        for pairs in ([], [(0, 0)], [(0, 0), (1, 1), (0, 2)]):
            whole = joined(one, other, pairs)
            self.assertTrue(plain.apart([one, other, pairs, whole, joined(one, other, pairs)]))
        whole = joined(one, other, pairs)
        before = copy.deepcopy(whole)
        for part in one + other + (pairs,):
            part.clear()
        self.same(whole, before)

    def test_a_net_with_itself(self):
        net = read("in p 1\nout y p")
        whole = joined(net, net, [(0, 0)])
        self.same(whole, net)
        self.assertTrue(plain.apart([net, whole]))


if __name__ == "__main__":
    unittest.main()
