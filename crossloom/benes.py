"""Benes: nets that carry every pairing, and the settings for one."""

from crossloom.elements import Net, plain_wires
from crossloom.errors import BadNet
from crossloom.pairings import behind, check_pairing, filled, how_many, logarithm, power_of_two, turned_over


def size_of(many):
    """Return (stages, elements) of the net of so many gates, a power of two."""
    count = logarithm(many)
    if count < 1:
        raise BadNet("a net of less than two gates")
    stages = 2 * count - 1
    return (stages, stages * (many // 2))


def parted_wires(many):
    """Return wires by which an element's upper gate leads to the upper half, the lower to the lower."""
    return tuple([place // 2 + place % 2 * (many // 2) for place in range(many)])


def in_halves(one, other):
    """Return wires of two nets side by side: of whole nets or their wires row by row, or of one row each."""
    if isinstance(one, Net):
        return in_halves(one.wires, other.wires)
    if any([isinstance(row, (list, tuple)) for row in one]):
        return tuple([in_halves(upper, lower) for upper, lower in zip(one, other)])
    return tuple(one) + tuple([len(one) + place for place in other])


def net_of(many):
    """Return the net: an element stage, two nets of half the gates side by side, an element stage."""
    if logarithm(many) < 1:
        raise BadNet("a net of less than two gates")
    plain = plain_wires(many)
    if many == 2:
        return Net(many, (plain, plain))
    half = net_of(many // 2)
    inner = in_halves(half, half)
    parted = parted_wires(many)
    first = behind(parted, inner[0])
    last = behind(inner[-1], turned_over(parted))
    return Net(many, (plain, first) + inner[1:-1] + (last, plain))


def halves_of(pairs):
    """Return which half each gate in goes through, so that no element on either side gets two: loop by loop."""
    halves = [1 for _ in pairs]
    for row in upper_loops(pairs):
        for gate in row:
            halves[gate] = 0
    return tuple(halves)


def upper_loops(pairs):
    """Return, loop by loop, the gates in that go through the upper half, as they are led."""
    full = filled(pairs)
    back = turned_over(full)
    is_led = [False for _ in full]
    found = []
    for start in range(len(full)):
        row = []
        gate = start
        while not is_led[gate]:
            other = partner(gate)
            is_led[gate] = True
            is_led[other] = True
            row.append(gate)
            gate = back[partner(full[other])]
        if row != []:
            found.append(row)
    return found


def partner(gate):
    """Return the other gate of a gate's element."""
    return gate ^ 1


def settings_for(pairs):
    """Return the settings with which the net of so many gates carries a pairing; free gates are filled in order."""
    many = len(pairs)
    full = filled(check_pairing(pairs, many))
    if logarithm(many) < 1:
        raise BadNet("a net of less than two gates")
    if many == 2:
        return [[full[0]]]
    halves = halves_of(full)
    back = turned_over(full)
    upper = settings_for(half_of(full, halves, 0))
    lower = settings_for(half_of(full, halves, 1))
    first = [halves[gate] for gate in range(0, many, 2)]
    last = [halves[back[gate]] for gate in range(0, many, 2)]
    return [first] + [row + other for row, other in zip(upper, lower)] + [last]


def half_of(full, halves, half):
    """Return the pairing that a half has to carry: for each element in, the element out of the gate led there."""
    return tuple([full[gate] // 2 for gate in range(len(full)) if halves[gate] == half])


def carries(pairs):
    """Tell whether the net with its settings carries a pairing."""
    made = net_of(len(pairs)).carried(settings_for(pairs))
    return all([gate is None or gate == led_to for gate, led_to in zip(pairs, made)])


def least_elements(many):
    """Return a number of elements below which no net can carry every pairing: two settings each must be as many."""
    wanted = how_many(many)
    count = 0
    while power_of_two(count) < wanted:
        count += 1
    return count


def loops(pairs):
    """Return how many loops the halves of a full pairing go in."""
    return len(upper_loops(pairs))
