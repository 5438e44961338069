"""Reads a net's text, or refuses it."""

from bearfaults.errors import Full, NoForm, NoPlace, NoWire, Open, TooLong, Twice

LETTERS = "abcdefghijklmnopqrstuvwxyz"
FIGURES = ("0", "1", "2", "3", "4", "5", "6", "7", "8", "9")
BARRED = ("in", "gate", "sure", "out", "not", "and", "or", "xor", "vote")
WIDTHS = {"1": 1, "2": 2, "3": 3}
KIND_WIRES = {"not": 1, "and": 2, "or": 2, "xor": 2, "vote": 3}
MOST_LETTERS = 8
MOST_ROWS = 80
MOST_INS = 6
MOST_GATES = 60
MOST_OUTS = 6
MOST_OUT_WIRES = 3


def is_name(word):
    """Whether the word is a name."""
    if len(word) < 1 or len(word) > MOST_LETTERS or word in BARRED:
        return False
    return all([sign in LETTERS for sign in word])


def in_wires(name, width):
    """The wires of an in, as a text writes them."""
    if width == 1:
        return [name]
    return [f"{name}:{figure}" for figure in range(width)]


def is_wire_form(word):
    """Whether the word is written as a wire is, be there such a wire or not."""
    parts = word.partition(":")
    return is_name(parts[0]) and (parts[1] == "" or parts[2] in FIGURES)


def are_wire_forms(words):
    """Whether each of the words is written as a wire is."""
    return all([is_wire_form(word) for word in words])


def is_in_form(words):
    """Whether the row's words have the form of an in."""
    return len(words) == 3 and words[0] == "in" and is_name(words[1]) and words[2] in WIDTHS


def is_gate_form(words):
    """Whether the row's words have the form of a gate, a sure one too."""
    if len(words) < 4 or words[0] not in ("gate", "sure"):
        return False
    if not is_name(words[1]) or words[2] not in KIND_WIRES:
        return False
    wires = words[3:]
    return len(wires) == KIND_WIRES[words[2]] and are_wire_forms(wires)


def is_out_form(words):
    """Whether the row's words have the form of an out."""
    if len(words) < 3 or words[0] != "out" or not is_name(words[1]):
        return False
    wires = words[2:]
    return len(wires) <= MOST_OUT_WIRES and are_wire_forms(wires)


class Draft:
    """A net as far as its rows have been read."""

    def __init__(self):
        self.ins = []
        self.gates = []
        self.outs = []
        # Outs have names of their own, which may be those of ins and gates.
        self.names = {}
        self.out_names = {}
        # Wires as they are written, in their order, so that their count is the next one's number.
        self.numbers = {}

    def add_in(self, name, width):
        """Puts an in behind those read, or refuses it."""
        if self.gates or self.outs:
            raise NoPlace(f"in {name} stands behind a gate or an out")
        if name in self.names:
            raise Twice(f"there is an in {name} ahead")
        if len(self.ins) >= MOST_INS:
            raise Full(f"in {name} is one too many")
        self.names[name] = True
        for wire in in_wires(name, width):
            self.numbers[wire] = len(self.numbers)
        self.ins.append((name, width))

    def add_gate(self, name, kind, wires, sure):
        """Puts a gate behind those read, or refuses it."""
        if self.outs:
            raise NoPlace(f"gate {name} stands behind an out")
        if name in self.names:
            raise Twice(f"there is an in or a gate {name} ahead")
        if len(self.gates) >= MOST_GATES:
            raise Full(f"gate {name} is one too many")
        self.gates.append((kind, self.wire_numbers(wires), sure))
        self.names[name] = True
        self.numbers[name] = len(self.numbers)

    def add_out(self, name, wires):
        """Puts an out behind those read, or refuses it."""
        if name in self.out_names:
            raise Twice(f"there is an out {name} ahead")
        if len(self.outs) >= MOST_OUTS:
            raise Full(f"out {name} is one too many")
        self.outs.append((name, self.wire_numbers(wires)))
        self.out_names[name] = True

    def wire_numbers(self, wires):
        """The numbers of the wires, as they are written."""
        for wire in wires:
            if wire not in self.numbers:
                raise NoWire(f"there is no wire {wire} ahead")
        return tuple([self.numbers[wire] for wire in wires])


def read_row(draft, row):
    """Adds to the draft what the row tells."""
    words = row.split(" ")
    if is_in_form(words):
        draft.add_in(words[1], WIDTHS[words[2]])
    elif is_gate_form(words):
        draft.add_gate(words[1], words[2], words[3:], words[0] == "sure")
    elif is_out_form(words):
        draft.add_out(words[1], words[2:])
    else:
        raise NoForm(f"a row of no form: {row!r}")


def read(text):
    """The net that the text tells."""
    rows = text.split("\n")
    if len(rows) > MOST_ROWS:
        raise TooLong("a text of too many rows")
    draft = Draft()
    for row in rows:
        read_row(draft, row)
    if not draft.ins or not draft.outs:
        raise Open("a net without an in, or without an out")
    return (draft.ins, draft.gates, draft.outs)
