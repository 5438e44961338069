"""Tells whether a net hands on no more faults than it is handed, and joins two nets."""

from bearfaults.errors import Full, NoFit, NotThree, Twice
from bearfaults.made import has_widths
from bearfaults.reader import MOST_GATES, MOST_INS, MOST_OUTS
from bearfaults.runs import Bench, vote_of


def unlike_at(outs):
    """The mask of the inputs at which the three wires of some out don't tell the same."""
    mask = 0
    for masks in outs:
        mask = mask | (masks[0] ^ masks[1]) | (masks[0] ^ masks[2])
    return mask


def lost_at(before, after):
    """The mask of the inputs at which some out has more than one wire that tells otherwise than before."""
    mask = 0
    for masks, others in zip(before, after):
        mask = mask | vote_of([masks[place] ^ others[place] for place in range(3)])
    return mask


def bad_sets(first, end, many):
    """All tuples of so many wires of threes from the first wire up to the end, at most one of each three."""
    if many == 0:
        return [()]
    found = []
    for wire in range(first, end):
        next_three = (wire // 3 + 1) * 3
        for rest in bad_sets(next_three, end, many - 1):
            found.append((wire,) + rest)
    return found


def keeping_faults(net):
    """What is tried of a net that is to keep, in order: tuples of bad wires and turned gates."""
    faults = [((), (place,)) for place, gate in enumerate(net[1]) if not gate[2]]
    many_ins = len(net[0])
    for many in range(1, many_ins + 1):
        faults.extend([(bad, ()) for bad in bad_sets(0, many_ins * 3, many)])
    return faults


def keeps(net):
    """("keeps",), or ("loses", bad, turned, number): the first that shows it."""
    if not has_widths(net, 3):
        raise NotThree("a net with an in or an out of other than three wires")
    bench = Bench(net)
    plain = bench.tells((), ())
    mask = unlike_at(plain)
    if mask != 0:
        return ("loses", (), (), bench.inputs_in(mask)[0])
    for bad, turned in keeping_faults(net):
        mask = lost_at(plain, bench.tells(turned, bad))
        if mask != 0:
            return ("loses", bad, turned, bench.inputs_in(mask)[0])
    return ("keeps",)


def check_fits(one, other, pairs):
    """Refuses pairs of an out and an in of unlike widths."""
    for out_place, in_place in pairs:
        if len(one[2][out_place][1]) != other[0][in_place][1]:
            raise NoFit(f"out {out_place} has other wires than in {in_place}")


def outs_of_ins(pairs):
    """For each in that is named the place of its out."""
    found = {}
    for out_place, in_place in pairs:
        if in_place in found:
            raise Twice(f"in {in_place} is told twice")
        found[in_place] = out_place
    return found


def check_names(told):
    """Refuses ins, or outs, of which two have one name."""
    names = {}
    for name, rest in told:
        if name in names:
            raise Twice(f"there are two of the name {name}")
        names[name] = True


def check_room(net):
    """Refuses a net of too many ins, gates or outs."""
    if len(net[0]) > MOST_INS or len(net[1]) > MOST_GATES or len(net[2]) > MOST_OUTS:
        raise Full("a net of too many ins, gates or outs")


def many_wires(ins):
    """How many wires the ins have."""
    return sum([width for name, width in ins])


def rewired(told, numbers):
    """The wires' numbers in the whole, by a list of these."""
    return tuple([numbers[wire] for wire in told])


def rewired_gates(gates, numbers):
    """The gates with the numbers that their wires have in the whole."""
    return [(kind, rewired(wires, numbers), sure) for kind, wires, sure in gates]


def rewired_outs(outs, numbers):
    """The outs with the numbers that their wires have in the whole."""
    return [(name, rewired(wires, numbers)) for name, wires in outs]


def one_numbers(one, left_wires):
    """The numbers that the one's wires have in the whole, so many wires of left ins put behind its own."""
    many = many_wires(one[0])
    numbers = list(range(many))
    numbers.extend([many + left_wires + place for place in range(len(one[1]))])
    return numbers


def other_numbers(other, one, numbers, named):
    """The numbers that the other's wires have in the whole, the one's told by numbers."""
    found = []
    free = many_wires(one[0])
    for place, told in enumerate(other[0]):
        if place in named:
            found.extend(rewired(one[2][named[place]][1], numbers))
        else:
            found.extend(list(range(free, free + told[1])))
            free = free + told[1]
    # Behind all ins' wires stand the one's gates, then the other's.
    top = free + len(one[1])
    found.extend(list(range(top, top + len(other[1]))))
    return found


def joined(one, other, pairs):
    """The net of both, the ins of the other that the pairs name fed by the outs of the one."""
    check_fits(one, other, pairs)
    named = outs_of_ins(pairs)
    fed_by = [out_place for out_place, in_place in pairs]
    left_ins = [told for place, told in enumerate(other[0]) if place not in named]
    left_outs = [told for place, told in enumerate(one[2]) if place not in fed_by]
    numbers = one_numbers(one, many_wires(left_ins))
    others = other_numbers(other, one, numbers, named)
    ins = one[0] + left_ins
    gates = rewired_gates(one[1], numbers) + rewired_gates(other[1], others)
    outs = rewired_outs(left_outs, numbers) + rewired_outs(other[2], others)
    check_names(ins)
    check_names(outs)
    check_room((ins, gates, outs))
    return (ins, gates, outs)
