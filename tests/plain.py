"""Plain trial, for the tests: one input and one set of gates at a time, shared with nothing of the program's."""

import itertools

COUNTS = {"not": 1, "and": 2, "or": 2, "xor": 2, "vote": 3}
LEVELS = ("right", "safe")


def inputs(net):
    return list(itertools.product((0, 1), repeat=len(net[0])))


def gate_bit(kind, bits):
    if kind == "not":
        return 1 - bits[0]
    if kind == "xor":
        return sum(bits) % 2
    return int(sum(bits) >= {"and": 2, "or": 1, "vote": 2}[kind])


def run(net, bits, turned, bad):
    wires = []
    for (name, width), bit in zip(net[0], bits):
        wires.extend([bit] * width)
    for number in bad:
        wires[number] = 1 - wires[number]
    for place, (kind, reads, sure) in enumerate(net[1]):
        bit = gate_bit(kind, [wires[wire] for wire in reads])
        wires.append(1 - bit if place in turned else bit)
    return [tuple(wires[wire] for wire in reads) for name, reads in net[2]]


def told(bits):
    if len(bits) == 2 and bits[0] != bits[1]:
        return None
    return int(2 * sum(bits) > len(bits))


def reads(net, bits, turned):
    return [told(out) for out in run(net, bits, turned, ())]


def breaks(net, bits, turned, level):
    for before, after in zip(reads(net, bits, ()), reads(net, bits, turned)):
        if before != after and (level == "right" or after is not None):
            return True
    return False


def unsure(net):
    return [place for place, gate in enumerate(net[1]) if not gate[2]]


def sets(net, many):
    """The sets of at most so many gates that aren't sure, smaller ones first, then by their places."""
    for size in range(many + 1):
        yield from itertools.combinations(unsure(net), size)


def bears(net, many, level):
    for turned in sets(net, many):
        for number, bits in enumerate(inputs(net)):
            if breaks(net, bits, turned, level):
                return ("breaks", turned, number)
    return ("bears",)


def matters(net):
    found = []
    for place in unsure(net):
        wrong = none = 0
        for bits in inputs(net):
            pairs = list(zip(reads(net, bits, ()), reads(net, bits, (place,))))
            if any(after is not None and before != after for before, after in pairs):
                wrong += 1
            elif any(after is None for before, after in pairs):
                none += 1
        found.append((place, wrong, none))
    return found


def all_breaking(net, many, level):
    """The sets of at most so many gates that break the net at some input, those with smaller ones in them too."""
    return [turned for turned in sets(net, many) if any(breaks(net, bits, turned, level) for bits in inputs(net))]


def breaking(net, many, level):
    found = all_breaking(net, many, level)
    return [one for one in found if not any(set(other) < set(one) for other in found)]


def surest(net, many, level):
    found = all_breaking(net, many, level)
    for places in sets(net, len(net[1])):
        if all(set(places) & set(turned) for turned in found):
            return places


def bad_sets(net):
    """The sets of ins' wires with at most one of each in, but the empty one, fewer first, then by their numbers."""
    owners = [place for place, (name, width) in enumerate(net[0]) for figure in range(width)]
    for many in range(1, len(net[0]) + 1):
        for bad in itertools.combinations(range(len(owners)), many):
            if len(set(owners[wire] for wire in bad)) == many:
                yield bad


def hands_on(net, bits, turned, bad):
    """Whether some out has more than one wire that tells otherwise than with nothing turned."""
    for before, after in zip(run(net, bits, (), ()), run(net, bits, turned, bad)):
        if sum(one != other for one, other in zip(before, after)) > 1:
            return True
    return False


def keeps(net):
    for number, bits in enumerate(inputs(net)):
        if any(len(set(out)) > 1 for out in run(net, bits, (), ())):
            return ("loses", (), (), number)
    tried = [((), (place,)) for place in unsure(net)] + [(bad, ()) for bad in bad_sets(net)]
    for bad, turned in tried:
        for number, bits in enumerate(inputs(net)):
            if hands_on(net, bits, turned, bad):
                return ("loses", bad, turned, number)
    return ("keeps",)


class Picks:
    """Numbers that look mixed and are the same in every run."""

    def __init__(self, seed):
        self.state = seed * 7919 + 12345

    def below(self, bound):
        self.state = (self.state * 1103515245 + 12345) % 2 ** 31
        return (self.state >> 8) % bound


def add_gates(picks, gates, wires, count):
    for place in range(count):
        kind = list(COUNTS)[picks.below(5)]
        top = wires + len(gates)
        gates.append((kind, tuple(picks.below(top) for k in range(COUNTS[kind])), picks.below(5) == 0))


def sound_out(picks, gates, wires):
    """The wires of an out of some width that is read as a bit at every input; puts copies of a gate behind."""
    width = 1 + picks.below(3)
    place = picks.below(len(gates))
    numbers = [wires + place]
    while len(numbers) < width:
        kind, gate_wires, sure = gates[place]
        numbers.append(wires + len(gates))
        gates.append((kind, gate_wires, picks.below(5) == 0))
    if width == 3 and picks.below(2) == 0:
        numbers = [picks.below(wires + len(gates)) for k in range(3)]
    return tuple(numbers)


def sound_net(seed, most_gates=4):
    """A sound net of some gates, its outs of all widths."""
    picks = Picks(seed)
    ins = [("pqrstu"[place], 1 + picks.below(3)) for place in range(1 + picks.below(3))]
    wires = sum(width for name, width in ins)
    gates = []
    add_gates(picks, gates, wires, 1 + picks.below(most_gates))
    outs = [("yzw"[place], sound_out(picks, gates, wires)) for place in range(1 + picks.below(3))]
    return (ins, gates, outs)


def any_net(seed, most_gates=8):
    """A net of some gates that may not be sound."""
    picks = Picks(seed)
    ins = [("pqrstu"[place], 1 + picks.below(3)) for place in range(1 + picks.below(4))]
    wires = sum(width for name, width in ins)
    gates = []
    add_gates(picks, gates, wires, picks.below(most_gates + 1))
    top = wires + len(gates)
    outs = []
    for place in range(1 + picks.below(4)):
        outs.append(("yzwv"[place], tuple(picks.below(top) for k in range(1 + picks.below(3)))))
    return (ins, gates, outs)


def plain_net(seed, most_gates=8):
    """A net of some gates all of whose ins and outs are of one wire."""
    picks = Picks(seed)
    ins = [("pqrstu"[place], 1) for place in range(1 + picks.below(4))]
    gates = []
    add_gates(picks, gates, len(ins), picks.below(most_gates + 1))
    top = len(ins) + len(gates)
    outs = [("yzwv"[place], (picks.below(top),)) for place in range(1 + picks.below(4))]
    return (ins, gates, outs)


def threes_net(seed, in_names="pqr", out_names="yzw"):
    """A net of ins and outs of three wires: copies of gates in threes, now and then some wire mistaken; it may keep."""
    picks = Picks(seed)
    ins = [(name, 3) for name in in_names[:1 + picks.below(len(in_names))]]
    lanes = [[place * 3 + lane for lane in range(3)] for place in range(len(ins))]
    gates = []
    # Ins that are voted on at once are those that let a net of several ins keep.
    for place in range(len(ins) if picks.below(2) else 0):
        gates.extend([("vote", tuple(lanes[place]), picks.below(5) == 0)] * 3)
        lanes[place] = [len(ins) * 3 + len(gates) - 3 + lane for lane in range(3)]
    for place in range(picks.below(3)):
        kind = list(COUNTS)[picks.below(5)]
        reads = [lanes[picks.below(len(lanes))] for k in range(COUNTS[kind])]
        for lane in range(3):
            gates.append((kind, tuple(one[lane] for one in reads), picks.below(5) == 0))
        lanes.append([len(ins) * 3 + len(gates) - 3 + lane for lane in range(3)])
    outs = [[name, list(lanes[picks.below(len(lanes))])] for name in out_names[:1 + picks.below(len(out_names))]]
    if picks.below(6) == 0:
        outs[0][1][picks.below(3)] = picks.below(len(ins) * 3 + len(gates))
    return (ins, gates, [(name, tuple(wires)) for name, wires in outs])


def lists_in(value):
    """Every list in a told or handed value, lists within lists and tuples too."""
    found = [value] if isinstance(value, list) else []
    if isinstance(value, (list, tuple)):
        for part in value:
            found.extend(lists_in(part))
    return found


def apart(values):
    """Whether no list stands twice in the values, taken together."""
    marks = [id(one) for one in lists_in(list(values))]
    return len(marks) == len(set(marks))


def kinds(value):
    """A value with each part named by its exact kind, so that True isn't taken for 1, nor a list for a tuple."""
    if isinstance(value, (list, tuple)):
        return (type(value).__name__, [kinds(part) for part in value])
    return (type(value).__name__, value)
