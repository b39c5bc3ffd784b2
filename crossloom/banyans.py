"""Banyans: nets in which each cell finds its way by the figures of its gate out, and where two meet."""

from crossloom.elements import Net, plain_wires
from crossloom.errors import Blocked
from crossloom.pairings import check_pairing, figures, is_order, logarithm, shuffled


def plain_net(many):
    """Return the net: a shuffle ahead of each of as many stages as a gate has figures."""
    count = logarithm(many)
    return Net(many, [shuffled(many) for _ in range(count)] + [plain_wires(many)])


def way(many, gate, goal):
    """Return the places behind each stage on the one way from a gate in to a gate out."""
    place = gate
    places = []
    for figure in figures(goal, logarithm(many)):
        place = (2 * place + figure) % many
        places.append(place)
    return tuple(places)


def ways_of(pairs):
    """Return (gate in, its way) for each gate in that has a gate out, in order."""
    many = len(pairs)
    return [(one, way(many, one, gate)) for one, gate in enumerate(pairs) if gate is not None]


def meetings(pairs):
    """Return (stage, place, lower gate in, higher gate in) where two ways meet, in order."""
    many = len(pairs)
    rows = ways_of(check_pairing(pairs, many))
    found = []
    # Asked even where no gate has a way, for the size is refused there too.
    for stage in range(logarithm(many)):
        for number, (low, first) in enumerate(rows):
            for high, second in rows[number + 1:]:
                if first[stage] == second[stage]:
                    found.append((stage, first[stage], low, high))
    return tuple(sorted(found))


def passes(pairs):
    """Tell whether no two ways of a pairing meet."""
    return meetings(pairs) == ()


def own_settings(pairs):
    """Return the settings by which the net carries a pairing; Blocked where two ways meet; free elements straight."""
    if not passes(pairs):
        raise Blocked("two ways that meet")
    many = len(pairs)
    found = [[0 for _ in range(many // 2)] for _ in range(logarithm(many))]
    wires = shuffled(many)
    for one, row in ways_of(pairs):
        place = one
        for stage, goes_to in enumerate(row):
            comes_to = wires[place]
            found[stage][comes_to // 2] = comes_to ^ goes_to
            place = goes_to
    return found


def is_dense(pairs):
    """Tell whether the gates in that have one stand side by side, and the gates out rise with them."""
    taken = [one for one, gate in enumerate(pairs) if gate is not None]
    side_by_side = taken == [] or taken[-1] - taken[0] == len(taken) - 1
    return side_by_side and is_order(pairs)


def rounds(pairs):
    """Return pairings, each without a meeting, that make a pairing together: each gate in, in order, in the first."""
    bare = tuple([None for _ in pairs])
    found = []
    for one, gate in enumerate(check_pairing(pairs, len(pairs))):
        if gate is not None:
            tried = [put(row, one, gate) for row in found + [bare]]
            place = first_passing(tried)
            found[place:place + 1] = [tried[place]]
    return tuple(found)


def first_passing(rows):
    """Return the place of the first pairing without a meeting, None for none."""
    for place, row in enumerate(rows):
        if passes(row):
            return place
    return None


def put(pairs, one, gate):
    """Return a pairing with one more gate in paired."""
    found = list(pairs)
    found[one] = gate
    return tuple(found)


def load(pairs):
    """Return the most ways that go through any one place behind a stage."""
    ways = {}
    for _, row in ways_of(pairs):
        for spot in enumerate(row):
            ways[spot] = ways.get(spot, 0) + 1
    return max(ways.values(), default=0)
