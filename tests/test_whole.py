"""Points 1 to 3 over the whole program, and its interface."""

import copy
import importlib
import inspect
import unittest

import plain
from bearfaults.borne import bears, matters
from bearfaults.desk import Desk
from bearfaults.errors import FaultError
from bearfaults.joins import joined, keeps
from bearfaults.made import in_pairs, in_threes, size, with_votes
from bearfaults.reader import read
from bearfaults.runs import columns, is_sound, run
from bearfaults.surest import breaking, made_sure, surest
from bearfaults.texts import shown

# For each module its functions, and how many arguments each of them takes by their place.
FUNCTIONS = {
    "reader": {"is_name": 1, "read": 1},
    "texts": {"shown": 1},
    "runs": {"run": 4, "told": 1, "is_sound": 1, "columns": 1},
    "borne": {"bears": 3, "matters": 1},
    "surest": {"breaking": 3, "surest": 3, "made_sure": 2},
    "made": {"in_threes": 1, "in_pairs": 1, "with_votes": 1, "size": 1},
    "joins": {"keeps": 1, "joined": 3},
}
REFUSALS = ("TooLong", "NoForm", "NoPlace", "Twice", "Full", "NoWire", "Open", "NotPlain", "NotThree", "NotSound",
            "NoFit", "NoShape", "NoneYet")

# Every function that is handed a net and tells something of it.
ASKS = (
    shown,
    lambda net: run(net, (0,) * len(net[0]), (), ()),
    is_sound,
    columns,
    lambda net: bears(net, 2, "right"),
    lambda net: bears(net, 1, "safe"),
    matters,
    lambda net: breaking(net, 2, "safe"),
    lambda net: surest(net, 1, "right"),
    lambda net: made_sure(net, (0,)),
    in_threes,
    in_pairs,
    with_votes,
    size,
    lambda net: keeps(in_threes(net)),
    lambda net: joined(net, ([("k", 1)], [("not", (0,), False)], [("l", (1,))]), [(0, 0)]),
    lambda net: joined(([("k", 1)], [("not", (0,), False)], [("l", (1,))]), net, [(0, 0)]),
)


class Checked(unittest.TestCase):

    def same(self, value, due):
        self.assertEqual(plain.kinds(value), plain.kinds(due))


class Interface(Checked):

    def test_functions_and_their_arguments(self):
        for module, functions in FUNCTIONS.items():
            held = importlib.import_module("bearfaults." + module)
            for name, count in functions.items():
                with self.subTest(module=module, name=name):
                    parameters = inspect.signature(getattr(held, name)).parameters.values()
                    due = [one for one in parameters if one.default is inspect.Parameter.empty]
                    self.assertEqual(len(due), count)
                    self.assertEqual(getattr(held, name).__module__, "bearfaults." + module)

    def test_refusals(self):
        errors = importlib.import_module("bearfaults.errors")
        self.assertTrue(issubclass(FaultError, ValueError))
        classes = [getattr(errors, name) for name in REFUSALS]
        for one in classes:
            self.assertTrue(issubclass(one, FaultError))
            self.assertEqual([other for other in classes if issubclass(one, other)], [one])

    def test_desk(self):
        self.assertEqual(len(inspect.signature(Desk).parameters), 0)
        self.assertEqual(len(inspect.signature(Desk().say).parameters), 1)
        self.same(Desk().say("clear"), "ok")


class HandedIn(Checked):

    def test_nothing_is_changed_and_no_list_is_told_twice(self):
        for seed in range(30):
            net = plain.plain_net(seed, 6)
            net[1].append(("not", (0,), False))
            before = copy.deepcopy(net)
            parts = list(net)
            told = [ask(net) for ask in ASKS + ASKS]
            self.same(net, before)
            for one, other in zip(net, parts):
                self.assertIs(one, other)
            self.assertTrue(plain.apart([net] + told))

    def test_nothing_handed_in_is_kept(self):
        for seed in range(10):
            net = plain.plain_net(seed, 6)
            net[1].append(("not", (0,), False))
            told = [ask(net) for ask in ASKS]
            before = copy.deepcopy(told)
            for part in net:
                part.clear()
            self.same(told, before)

    def test_told_lists_are_the_askers_own(self):
        net = plain.plain_net(3, 6)
        net[1].append(("not", (0,), False))
        before = copy.deepcopy(net)
        first = [ask(net) for ask in ASKS]
        due = copy.deepcopy(first)
        for one in plain.lists_in(first):
            one.clear()
        self.same(net, before)
        self.same([ask(net) for ask in ASKS], due)


class Promise(Checked):

    def test_what_is_borne_and_what_breaks(self):
        for seed in range(40):
            net = plain.sound_net(seed)
            for level in plain.LEVELS:
                for many in range(4):
                    told = bears(net, many, level)
                    if told == ("bears",):
                        self.assertEqual(plain.all_breaking(net, many, level), [])
                    else:
                        self.assertTrue(plain.breaks(net, plain.inputs(net)[told[2]], told[1], level))
                        self.assertEqual(plain.all_breaking(net, len(told[1]) - 1, level), [])

    def test_made_nets_told_sure_gates_bear_more(self):
        for seed in range(12):
            net = plain.plain_net(seed, 3)
            for make in (in_threes, in_pairs):
                made = make(net)
                for level in plain.LEVELS:
                    places = surest(made, 2, level)
                    self.same(bears(made_sure(made, places), 2, level), ("bears",))
                    self.same(columns(made_sure(made, places)), columns(net))

    def test_from_text_to_a_joined_net(self):
        one = in_threes(read("in p 1\ngate a not p\nout y a"))
        other = with_votes(read("in q 1\ngate a not q\nsure b xor a q\nout z b\nout w a"))
        whole = joined(one, other, [(0, 0)])
        self.same(keeps(one), ("keeps",))
        self.same(keeps(other), ("keeps",))
        self.same(keeps(whole), ("keeps",))
        self.same(columns(whole), [[1, 1], [0, 1]])
        self.same(bears(whole, 1, "right"), ("bears",))
        self.same(read(shown(whole)), whole)


if __name__ == "__main__":
    unittest.main()
