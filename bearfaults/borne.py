"""Tells how many faults a net bears, and which of its gates matter."""

from bearfaults.runs import Bench


def choices(places, size):
    """All tuples of so many of the rising places, the first by their places first."""
    if size == 0:
        return [()]
    found = []
    for ahead, place in enumerate(places):
        for rest in choices(places[ahead + 1:], size - 1):
            found.append((place,) + rest)
    return found


class Trial:
    """A sound net with gates turned, held against itself with nothing turned."""

    def __init__(self, net):
        self.bench = Bench(net)
        self.plain = self.bench.readings(())
        # Sure gates never fail, so no set that is tried has one of them.
        self.unsure = [place for place, gate in enumerate(net[1]) if not gate[2]]

    def breaks_at(self, turned, level):
        """The mask of the inputs at which the turned gates break the net by the level."""
        mask = 0
        for before, after in zip(self.plain, self.bench.readings(turned)):
            if level == "safe":
                mask = mask | (before[0] & after[1]) | (before[1] & after[0])
            else:
                mask = mask | (before[0] ^ after[0]) | (before[1] ^ after[1])
        return mask


def bears(net, many, level):
    """("bears",), or ("breaks", turned, number): the fewest gates, the first set, the first input."""
    trial = Trial(net)
    for size in range(many + 1):
        for turned in choices(trial.unsure, size):
            mask = trial.breaks_at(turned, level)
            if mask != 0:
                return ("breaks", turned, trial.bench.inputs_in(mask)[0])
    return ("bears",)


def matters(net):
    """For each gate that isn't sure (place, wrong, none), counts of inputs with it alone turned."""
    trial = Trial(net)
    found = []
    for place in trial.unsure:
        wrong = trial.breaks_at((place,), "safe")
        # An out of a sound net that is read otherwise, but not as the other bit, is read as None.
        none = trial.breaks_at((place,), "right") ^ wrong
        found.append((place, len(trial.bench.inputs_in(wrong)), len(trial.bench.inputs_in(none))))
    return found
