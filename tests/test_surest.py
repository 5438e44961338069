"""Point 12, and 2 and 3 of it: breaking sets, the surest gates, nets made sure."""

import copy
import itertools
import unittest

import plain
from bearfaults.borne import bears
from bearfaults.reader import read
from bearfaults.surest import breaking, made_sure, surest

THREES = "in p 3\ngate a not p:0\ngate b not p:1\ngate c not p:2\nout y a b c"
PAIRS = "in p 2\ngate a not p:0\ngate b not p:1\nout y a b"


class Wiring:
    """A net of gates that always tell 0, and sure gates put behind them one by one."""

    def __init__(self, count):
        self.gates = [("xor", (0, 0), False)] * count
        self.noughts = list(range(1, count + 1))

    def put(self, kind, *wires):
        self.gates.append((kind, wires, True))
        return len(self.gates)

    def add(self, a, b, c):
        """The wires of a sum of three: its low and its high one."""
        return self.put("xor", self.put("xor", a, b), c), self.put("vote", a, b, c)

    def any_of(self, wires):
        wire = wires[0]
        for other in wires[1:]:
            wire = self.put("or", wire, other)
        return wire

    def net(self, wire):
        return ([("p", 1)], list(self.gates), [("y", (wire,))])


def two_of(count):
    """A net whose out is wrong where two or more of so many gates are turned."""
    wiring = Wiring(count)
    some = wiring.put("or", 1, 2)
    two = wiring.put("and", 1, 2)
    for wire in wiring.noughts[2:]:
        two = wiring.put("or", two, wiring.put("and", some, wire))
        if wire < count:
            some = wiring.put("or", some, wire)
    return wiring.net(two)


def three_of_twelve():
    """A net whose out is wrong where three or more of twelve gates are turned."""
    wiring = Wiring(12)
    lows = []
    highs = []
    for first in (1, 4, 7, 10):
        low, high = wiring.add(first, first + 1, first + 2)
        lows.append(low)
        highs.append(high)
    low, high = wiring.add(*lows[:3])
    highs.append(high)
    highs.append(wiring.put("and", low, lows[3]))
    low = wiring.put("xor", low, lows[3])
    left = wiring.any_of(highs[:3])
    right = wiring.any_of(highs[3:])
    votes = [wiring.put("vote", *highs[:3]), wiring.put("vote", *highs[3:])]
    two_highs = wiring.any_of(votes + [wiring.put("and", left, right)])
    return wiring.net(wiring.put("or", two_highs, wiring.put("and", low, wiring.put("or", left, right))))


def groups_net(count, groups):
    """A net of so many gates whose out is wrong where the gates at all places of some group are turned."""
    wiring = Wiring(count)
    wires = []
    for group in groups:
        wire = group[0] + 1
        for place in group[1:]:
            wire = wiring.put("and", wire, place + 1)
        wires.append(wire)
    return wiring.net(wiring.any_of(wires))


class Checked(unittest.TestCase):

    def same(self, value, due):
        self.assertEqual(plain.kinds(value), plain.kinds(due))


class Breaking(Checked):

    def test_threes(self):
        net = read(THREES)
        for level in plain.LEVELS:
            self.same(breaking(net, 0, level), [])
            self.same(breaking(net, 1, level), [])
            self.same(breaking(net, 2, level), [(0, 1), (0, 2), (1, 2)])
            self.same(breaking(net, 3, level), [(0, 1), (0, 2), (1, 2)])

    def test_pairs(self):
        net = read(PAIRS)
        for many in (1, 2, 3):
            self.same(breaking(net, many, "right"), [(0,), (1,)])
        self.same(breaking(net, 1, "safe"), [])
        self.same(breaking(net, 2, "safe"), [(0, 1)])

    def test_smaller_sets_first_then_by_places(self):
        net = groups_net(6, [(1, 2, 4), (0, 5), (0, 1, 3), (3, 4), (2, 5), (1, 5)])
        due = [(0, 5), (1, 5), (2, 5), (3, 4), (0, 1, 3), (1, 2, 4)]
        self.same(breaking(net, 3, "right"), due)
        self.same(breaking(net, 2, "right"), due[:4])

    def test_no_set_has_a_smaller_one_in_it(self):
        net = groups_net(5, [(2,), (0, 2), (1, 2, 3), (0, 1, 4), (3, 4)])
        self.same(breaking(net, 3, "safe"), [(2,), (3, 4), (0, 1, 4)])

    def test_gates_that_undo_one_another(self):
        # Each by itself breaks the net, both together don't.
        net = read("in p 1\ngate a not p\ngate b not a\nout y b")
        self.same(breaking(net, 2, "right"), [(0,), (1,)])

    def test_sure_gates_are_in_no_set(self):
        net = read("in p 3\ngate a not p:0\nsure b not p:1\ngate c not p:2\nout y a b c")
        self.same(breaking(net, 3, "right"), [(0, 2)])
        self.same(breaking(read("in p 1\nsure a not p\nout y a"), 3, "right"), [])

    def test_nets_without_gates(self):
        net = read("in p 1\nout y p")
        for many in range(4):
            self.same(breaking(net, many, "right"), [])
            self.same(surest(net, many, "safe"), ())


class Surest(Checked):

    def test_a_net_that_bears_already(self):
        for level in plain.LEVELS:
            self.same(surest(read(THREES), 1, level), ())
            self.same(surest(read(THREES), 0, level), ())
            self.same(surest(read("in p 1\ngate a not p\nout y a"), 0, level), ())
            self.same(surest(read("in p 1\nsure a not p\nout y a"), 3, level), ())
        self.same(surest(read(PAIRS), 1, "safe"), ())

    def test_threes_and_pairs(self):
        self.same(surest(read(THREES), 2, "right"), (0, 1))
        self.same(surest(read(PAIRS), 1, "right"), (0, 1))
        self.same(surest(read(PAIRS), 2, "safe"), (0,))

    def test_fewest_is_ahead_of_first(self):
        self.same(surest(groups_net(4, [(0, 3), (1, 3), (2, 3)]), 2, "right"), (3,))
        self.same(surest(groups_net(5, [(0, 1, 4), (0, 2, 4), (1, 3, 4)]), 3, "safe"), (4,))

    def test_the_first_of_the_fewest(self):
        self.same(surest(groups_net(4, [(0, 1), (2, 3)]), 2, "right"), (0, 2))
        self.same(surest(groups_net(4, [(0, 3), (1, 3), (1, 2)]), 2, "right"), (0, 1))
        self.same(surest(groups_net(5, [(0, 1), (1, 2), (2, 3), (3, 4)]), 2, "right"), (1, 3))
        self.same(surest(groups_net(6, [(0, 5), (1, 4), (2, 3), (4, 5)]), 2, "right"), (0, 2, 4))

    def test_singles_are_all_told(self):
        self.same(surest(groups_net(6, [(1,), (4,), (5,), (0, 2)]), 1, "right"), (1, 4, 5))
        self.same(surest(groups_net(6, [(1,), (4,), (5,), (0, 2)]), 2, "right"), (0, 1, 4, 5))

    def test_all_graphs_of_four_gates(self):
        pairs = list(itertools.combinations(range(4), 2))
        for count in range(1, 7):
            for groups in itertools.combinations(pairs, count):
                net = groups_net(4, groups)
                for level in plain.LEVELS:
                    self.same(breaking(net, 2, level), list(groups))
                    self.same(surest(net, 2, level), plain.surest(net, 2, level))


class Bounds(Checked):

    def test_forty_gates_of_one_fault(self):
        gates = [("not", (place,), False) for place in range(40)]
        net = ([("p", 1)], gates, [("y", (40,))])
        for level in plain.LEVELS:
            self.same(breaking(net, 1, level), [(place,) for place in range(40)])
            self.same(surest(net, 1, level), tuple(range(40)))

    def test_sure_gates_beyond_the_forty(self):
        gates = [("not", (place,), place % 3 == 2) for place in range(60)]
        net = ([("p", 1)], gates, [("y", (60,))])
        due = tuple(place for place in range(60) if place % 3 < 2)
        self.assertEqual(len(due), 40)
        self.same(surest(net, 1, "safe"), due)

    def test_sixteen_gates_of_two_faults(self):
        net = two_of(16)
        self.assertLessEqual(len(net[1]), 60)
        for level in plain.LEVELS:
            self.same(breaking(net, 1, level), [])
            self.same(breaking(net, 2, level), list(itertools.combinations(range(16), 2)))
            self.same(surest(net, 2, level), tuple(range(15)))

    def test_sixteen_gates_in_a_ring(self):
        ring = [(place, place + 1) for place in range(15)] + [(0, 15)]
        net = groups_net(16, ring)
        self.same(breaking(net, 2, "right"), sorted(ring))
        self.same(surest(net, 2, "right"), (0, 2, 4, 6, 8, 10, 12, 14))

    def test_twelve_gates_of_three_faults(self):
        net = three_of_twelve()
        self.assertLessEqual(len(net[1]), 60)
        for level in plain.LEVELS:
            self.same(breaking(net, 2, level), [])
            self.same(breaking(net, 3, level), list(itertools.combinations(range(12), 3)))
            self.same(surest(net, 3, level), tuple(range(10)))

    def test_twelve_gates_in_fours(self):
        groups = [group for first in (0, 4, 8) for group in itertools.combinations(range(first, first + 4), 3)]
        net = groups_net(12, groups)
        self.same(breaking(net, 3, "safe"), groups)
        self.same(surest(net, 3, "safe"), (0, 1, 4, 5, 8, 9))


class AgainstPlainTrial(Checked):

    def test_breaking_and_surest(self):
        sizes = {}
        for seed in range(160):
            net = plain.sound_net(seed)
            for level in plain.LEVELS:
                for many in range(4):
                    with self.subTest(net=net, many=many, level=level):
                        due = plain.breaking(net, many, level)
                        self.same(breaking(net, many, level), due)
                        for one in due:
                            sizes[len(one)] = sizes.get(len(one), 0) + 1
                        places = plain.surest(net, many, level)
                        self.same(surest(net, many, level), places)
        # Were some size never met, the trial would show little.
        for size in (1, 2):
            self.assertGreater(sizes.get(size, 0), 10)

    def test_mixed_groups(self):
        sizes = {}
        for seed in range(100):
            picks = plain.Picks(seed)
            count = 3 + picks.below(4)
            groups = []
            for k in range(1 + picks.below(6)):
                groups.append(tuple(sorted(set(picks.below(count) for j in range(1 + picks.below(4))))))
            net = groups_net(count, groups)
            for many in (1, 2, 3):
                with self.subTest(count=count, groups=groups, many=many):
                    due = plain.breaking(net, many, "right")
                    self.same(breaking(net, many, "right"), due)
                    self.same(surest(net, many, "right"), plain.surest(net, many, "right"))
                    for one in due:
                        sizes[len(one)] = sizes.get(len(one), 0) + 1
        for size in (1, 2, 3):
            self.assertGreater(sizes.get(size, 0), 10)

    def test_the_told_gates_are_enough_and_no_fewer_are(self):
        for seed in range(80):
            net = plain.sound_net(seed)
            for level in plain.LEVELS:
                for many in (1, 2, 3):
                    places = surest(net, many, level)
                    self.same(bears(made_sure(net, places), many, level), ("bears",))
                    self.same(plain.bears(made_sure(net, places), many, level), ("bears",))
                    if places:
                        for fewer in itertools.combinations(plain.unsure(net), len(places) - 1):
                            self.assertEqual(plain.bears(made_sure(net, fewer), many, level)[0], "breaks")


class MadeSure(Checked):

    text = "in p 2\nin q 1\ngate a not p:0\nsure b and a q\ngate c or b p:1\ngate d not c\nout y d\nout z a b"

    def test_just_the_sureness_of_the_told_gates(self):
        net = read(self.text)
        for count in range(5):
            for places in itertools.combinations(range(4), count):
                due = copy.deepcopy(net)
                for place in places:
                    due[1][place] = due[1][place][:2] + (True,)
                with self.subTest(places=places):
                    self.same(made_sure(net, places), due)

    def test_no_gates_told(self):
        net = read(self.text)
        self.same(made_sure(net, ()), net)
        least = read("in p 1\nout y p")
        self.same(made_sure(least, ()), least)

    def test_the_net_handed_in_stays(self):
        net = read(self.text)
        before = copy.deepcopy(net)
        parts = list(net)
        made_sure(net, (0, 1, 3))
        self.same(net, before)
        for one, other in zip(net, parts):
            self.assertIs(one, other)

    def test_the_two_nets_share_no_list(self):
        net = read(self.text)
        for places in ((), (1,), (0, 2)):
            made = made_sure(net, places)
            self.assertTrue(plain.apart([net, made, made_sure(net, places)]))
        made = made_sure(net, (0,))
        before = copy.deepcopy(made)
        for part in net:
            part.clear()
        self.same(made, before)


class HandedIn(Checked):

    def test_nothing_is_changed(self):
        for seed in range(20):
            net = plain.sound_net(seed)
            before = copy.deepcopy(net)
            parts = list(net)
            for ask in (lambda: breaking(net, 2, "right"), lambda: surest(net, 3, "safe")):
                first = ask()
                self.same(net, before)
                for one, other in zip(net, parts):
                    self.assertIs(one, other)
                self.same(ask(), first)

    def test_told_lists_are_the_askers_own(self):
        net = read(THREES)
        self.assertTrue(plain.apart([net, breaking(net, 2, "right"), breaking(net, 2, "right")]))
        breaking(net, 2, "right").clear()
        self.same(breaking(net, 2, "right"), [(0, 1), (0, 2), (1, 2)])


if __name__ == "__main__":
    unittest.main()
