"""Makes plain nets in threes, in pairs and with votes, and tells a net's size."""

from bearfaults.errors import Full, NotPlain
from bearfaults.reader import MOST_GATES


def has_widths(net, width):
    """Whether all ins and outs of the net are of so many wires."""
    ins_fit = all([told[1] == width for told in net[0]])
    return ins_fit and all([len(wires) == width for name, wires in net[2]])


def check_makes(net, times):
    """Refuses a net that isn't plain, or that would have too many gates with so many in the place of each."""
    if not has_widths(net, 1):
        raise NotPlain("a net with an in or an out of more than one wire")
    if len(net[1]) * times > MOST_GATES:
        raise Full(f"{times} gates in the place of each are too many")


def next_wires(first, many):
    """So many wires' numbers, from the first one on."""
    return tuple([first + step for step in range(many)])


def copied(net, many, voted):
    """The plain net with so many wires in the place of each; voted puts votes behind the copies of a gate."""
    top = len(net[0]) * many
    # What stands for each of the plain net's wires: the first one for the first copies, and so on.
    stands = [next_wires(place * many, many) for place in range(len(net[0]))]
    gates = []
    for gate in net[1]:
        copies = next_wires(top + len(gates), many)
        for step in range(many):
            gates.append((gate[0], tuple([stands[wire][step] for wire in gate[1]]), gate[2]))
        if voted:
            votes = next_wires(top + len(gates), many)
            gates.extend([("vote", copies, gate[2]) for wire in votes])
            stands.append(votes)
        else:
            stands.append(copies)
    ins = [(name, many) for name, width in net[0]]
    outs = [(name, stands[wires[0]]) for name, wires in net[2]]
    return (ins, gates, outs)


def in_threes(net):
    """The plain net with each gate three times."""
    check_makes(net, 3)
    return copied(net, 3, False)


def in_pairs(net):
    """The plain net with each gate twice."""
    check_makes(net, 2)
    return copied(net, 2, False)


def with_votes(net):
    """The plain net with each gate three times, and three votes behind these."""
    check_makes(net, 6)
    return copied(net, 3, True)


def deepest(depths, wires):
    """The most gates one behind the other on a way to one of the wires."""
    return max([depths[wire] for wire in wires])


def wire_depths(net):
    """For each wire the most gates one behind the other on a way to it, its own gate too."""
    depths = []
    for name, width in net[0]:
        depths.extend([0 for figure in range(width)])
    for gate in net[1]:
        depths.append(1 + deepest(depths, gate[1]))
    return depths


def size(net):
    """How many gates, how many of them votes, how many sure, and how deep the net is."""
    votes = [gate for gate in net[1] if gate[0] == "vote"]
    sure = [gate for gate in net[1] if gate[2]]
    depths = wire_depths(net)
    # A gate that no way leads from to an out makes the net no deeper.
    deep = max([deepest(depths, wires) for name, wires in net[2]])
    return (len(net[1]), len(votes), len(sure), deep)
