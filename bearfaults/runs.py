"""Runs a net, at one input or at all of them at once.

What a wire tells at all inputs is held in one whole number, a mask: its bit n is what the wire tells at input n. A
single input needs masks of one bit, so both ways share every rule of gates and outs.
"""


def vote_of(masks):
    """What two of the three masks tell at least."""
    return (masks[0] & masks[1]) | (masks[0] & masks[2]) | (masks[1] & masks[2])


def gate_mask(kind, masks, full):
    """What a gate of the kind tells, by what its wires tell; full is the mask of nothing but ones."""
    if kind == "not":
        return full ^ masks[0]
    if kind == "and":
        return masks[0] & masks[1]
    if kind == "or":
        return masks[0] | masks[1]
    if kind == "xor":
        return masks[0] ^ masks[1]
    return vote_of(masks)


def in_wire_masks(ins, in_masks, full, bad):
    """What each wire of the ins tells, those in bad turned."""
    wires = []
    for place, mask in enumerate(in_masks):
        for figure in range(ins[place][1]):
            wires.append(full ^ mask if len(wires) in bad else mask)
    return wires


def masks_at(wires, numbers):
    """What the wires of these numbers tell."""
    return tuple([wires[number] for number in numbers])


def wire_masks(net, in_masks, full, turned, bad):
    """What each wire of the net tells, with the gates of turned and the ins' wires of bad turned."""
    wires = in_wire_masks(net[0], in_masks, full, bad)
    for place, gate in enumerate(net[1]):
        mask = gate_mask(gate[0], masks_at(wires, gate[1]), full)
        wires.append(full ^ mask if place in turned else mask)
    return wires


def out_masks(net, wires):
    """For each out a tuple of what its wires tell."""
    return [masks_at(wires, numbers) for name, numbers in net[2]]


def run(net, bits, turned, bad):
    """For each out a tuple of its wires' bits at the input."""
    return out_masks(net, wire_masks(net, bits, 1, turned, bad))


def reading(masks, full):
    """How an out is read by what its wires tell: the mask of where it is 0, and that of where it is 1."""
    if len(masks) == 2:
        return (full ^ (masks[0] | masks[1]), masks[0] & masks[1])
    ones = masks[0] if len(masks) == 1 else vote_of(masks)
    return (full ^ ones, ones)


def bit_at(mask, number):
    """The mask's bit at the input of this number."""
    return (mask >> number) & 1


def read_at(masks, number):
    """A bit or None: what an out of this reading is read as at the input of this number."""
    if bit_at(masks[0], number) == 1:
        return 0
    if bit_at(masks[1], number) == 1:
        return 1
    return None


def told(bits):
    """A bit or None: what an out of these bits is read as."""
    return read_at(reading(bits, 1), 0)


def all_inputs(count):
    """All inputs of so many ins, in the order of their numbers."""
    inputs = [()]
    for place in range(count):
        longer = []
        for bits in inputs:
            longer.append(bits + (0,))
            longer.append(bits + (1,))
        inputs = longer
    return inputs


def mask_of(bits):
    """The mask whose bit n is the bit at place n."""
    mask = 0
    for bit in reversed(bits):
        mask = mask * 2 + bit
    return mask


def in_mask(inputs, place):
    """The bits of the in at the place at all these inputs."""
    return mask_of([bits[place] for bits in inputs])


class Bench:
    """A net that is run at all inputs at once."""

    def __init__(self, net):
        inputs = all_inputs(len(net[0]))
        self.net = net
        self.many_inputs = len(inputs)
        self.full = mask_of([1 for bits in inputs])
        self.in_masks = [in_mask(inputs, place) for place in range(len(net[0]))]

    def tells(self, turned, bad):
        """For each out a tuple of what its wires tell, with the gates of turned and the ins' wires of bad turned."""
        return out_masks(self.net, wire_masks(self.net, self.in_masks, self.full, turned, bad))

    def readings(self, turned):
        """How each out is read, with the gates of turned turned."""
        return [reading(masks, self.full) for masks in self.tells(turned, ())]

    def column(self, masks):
        """What an out of this reading is read as at each input."""
        return [read_at(masks, number) for number in range(self.many_inputs)]

    def inputs_in(self, mask):
        """The numbers of the mask's inputs, rising."""
        return [number for number in range(self.many_inputs) if bit_at(mask, number) == 1]


def is_sound(net):
    """Whether all outs are read as a bit at every input, nothing turned."""
    bench = Bench(net)
    return all([(masks[0] | masks[1]) == bench.full for masks in bench.readings(())])


def columns(net):
    """For each out a list of what it is read as at each input, nothing turned."""
    bench = Bench(net)
    return [bench.column(masks) for masks in bench.readings(())]
