"""Tells which gates are to be made sure, as few as can be, and makes them so."""

from bearfaults.borne import Trial, choices


def has_all(places, others):
    """Whether all of the others are among the places."""
    return all([place in places for place in others])


def breaking(net, many, level):
    """The sets of at most so many gates that break the net, none with a smaller such set in it."""
    trial = Trial(net)
    found = []
    for size in range(many + 1):
        for places in choices(trial.unsure, size):
            # Smaller sets are found ahead, and sets of one size aren't in one another.
            if any([has_all(places, others) for others in found]):
                continue
            if trial.breaks_at(places, level) != 0:
                found.append(places)
    return found


def count_apart(groups):
    """How many of the groups, taken in order, have no place in common with those taken ahead."""
    taken = {}
    count = 0
    for group in groups:
        if not any([place in taken for place in group]):
            count = count + 1
            for place in group:
                taken[place] = True
    return count


def behind(group, place):
    """The group's places behind this one."""
    return [other for other in group if other > place]


def groups_left(groups, place):
    """The groups that this place is not in, of each the places behind it."""
    return [behind(group, place) for group in groups if place not in group]


def first_places(groups, most):
    """The first rising places, at most so many, that each group has one of; None where there are none such."""
    # Groups that lie apart need a place each, which ends most vain searches early.
    if count_apart(groups) > most:
        return None
    if not groups:
        return ()
    # Places are taken rising, so the next one can't lie behind the whole of a group.
    last = min([group[-1] for group in groups])
    tried = {}
    for group in groups:
        for place in group:
            if place <= last:
                tried[place] = True
    for place in sorted(tried):
        rest = first_places(groups_left(groups, place), most - 1)
        if rest is not None:
            return (place,) + rest
    return None


def surest(net, many, level):
    """The fewest gates that, made sure, let the net bear so many faults, the first such by their places."""
    # A set with a sure gate is never turned, so one gate of each breaking set is to be made sure; a breaking set with
    # a smaller one in it is met by the smaller one's gate.
    groups = [list(places) for places in breaking(net, many, level)]
    most = 0
    places = first_places(groups, most)
    while places is None:
        most = most + 1
        places = first_places(groups, most)
    return places


def made_sure(net, places):
    """The net with the gates at the places sure, too."""
    gates = []
    for place, gate in enumerate(net[1]):
        gates.append((gate[0], gate[1], gate[2] or place in places))
    return (list(net[0]), gates, list(net[2]))
