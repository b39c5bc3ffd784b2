"""Copiers: cells that go to several gates, copied by splitting intervals, then led to their gates."""

from crossloom.errors import BadGate, BadSize
from crossloom.pairings import figures, logarithm, power_of_two


def check_groups(groups, many):
    """Return the gates out of each gate in, in order; BadGate for one twice or not there."""
    found = [tuple(sorted(row)) for row in groups]
    taken = [gate for row in found for gate in row]
    if len(found) != many or any([not 0 <= gate < many for gate in taken]):
        raise BadGate("a gate that isn't there")
    if len(set(taken)) != len(taken):
        raise BadGate("a gate out that is told twice")
    return found


def sums(groups):
    """Return how many copies the gates ahead of each have in all."""
    found = []
    ahead = 0
    for row in groups:
        found.append(ahead)
        ahead = ahead + len(row)
    return tuple(found)


def intervals(groups):
    """Return each gate in's places, (first, last), one behind another, None for none."""
    found = []
    for first, row in zip(sums(groups), groups):
        found.append(None if len(row) == 0 else (first, first + len(row) - 1))
    return tuple(found)


def split(low, high, place, count):
    """Return the parts of an interval at a figure's place: (0, low, high) and (1, low, high) as they are needed."""
    figure = figures(low, count)[place]
    if figure == figures(high, count)[place]:
        return ((figure, low, high),)
    size = power_of_two(count - place - 1)
    # The first number of the upper part has the figures of the higher end, with noughts behind the place.
    first = high // size * size
    return ((0, low, first - 1), (1, first, high))


def parts_ahead(parts, place, count):
    """Return the intervals, (low, high), that come of intervals split at a figure's place."""
    return [(first, last) for low, high in parts for _, first, last in split(low, high, place, count)]


def copied(groups, many):
    """Return, for each of so many places, the gate in whose copy stands there, None behind the last copy."""
    count = logarithm(many)
    found = [None for _ in range(many)]
    for one, interval in enumerate(intervals(check_groups(groups, many))):
        parts = [] if interval is None else [interval]
        for place in range(count):
            parts = parts_ahead(parts, place, count)
        for low, high in parts:
            if low != high:
                raise BadSize("an interval that is not split to its end")
            found[low] = one
    return tuple(found)


def goals(groups, many):
    """Return, for each of so many places, the gate out that its copy goes to, None behind the last copy."""
    found = [gate for row in check_groups(groups, many) for gate in row]
    return tuple(found + [None for _ in range(many - len(found))])


def carried(groups, many):
    """Return, for each gate out, the gate in whose copy comes to it, None for none."""
    found = [None for _ in range(many)]
    for one, gate in zip(copied(groups, many), goals(groups, many)):
        if gate is not None:
            found[gate] = one
    return tuple(found)


def nodes_used(groups, many):
    """Return the (stage, start of the places ahead) at which each interval is split in two, in order."""
    count = logarithm(many)
    found = []
    for interval in intervals(check_groups(groups, many)):
        parts = [] if interval is None else [interval]
        for stage in range(count):
            size = power_of_two(count - stage)
            for low, high in parts:
                if len(split(low, high, stage, count)) == 2:
                    found.append((stage, low // size * size))
            parts = parts_ahead(parts, stage, count)
    return tuple(sorted(found))
