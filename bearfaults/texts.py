"""Shows a net as text."""

from bearfaults.reader import BARRED, LETTERS, in_wires


def letters_of(place):
    """The place written with the letters as figures, `a` as nought."""
    word = LETTERS[place % len(LETTERS)]
    rest = place // len(LETTERS)
    while rest > 0:
        word = LETTERS[rest % len(LETTERS)] + word
        rest = rest // len(LETTERS)
    return word


def gate_name(place, in_names):
    """The name of the gate at the place, beside ins of these names."""
    name = letters_of(place)
    while name in BARRED or name in in_names:
        name = "x" + name
    return name


def gate_row(name, gate, written):
    """The row of a gate; written holds the wires as they are written, by their numbers."""
    word = "sure" if gate[2] else "gate"
    return " ".join([word, name, gate[0]] + [written[wire] for wire in gate[1]])


def out_row(out, written):
    """The row of an out; written holds the wires as they are written, by their numbers."""
    return " ".join(["out", out[0]] + [written[wire] for wire in out[1]])


def shown(net):
    """The net as a text that, read again, is the net."""
    in_names = [name for name, width in net[0]]
    rows = []
    written = []
    for name, width in net[0]:
        rows.append(f"in {name} {width}")
        written.extend(in_wires(name, width))
    for place, gate in enumerate(net[1]):
        name = gate_name(place, in_names)
        rows.append(gate_row(name, gate, written))
        written.append(name)
    for out in net[2]:
        rows.append(out_row(out, written))
    return "\n".join(rows)
