"""Pairings: each gate in with one gate out, or with none, put together, turned over and told by numbers."""

from crossloom.errors import BadGate, BadSize


def check_pairing(pairs, many):
    """Return a pairing, a gate out or None for each gate in, as a tuple; BadGate for one twice or not there."""
    found = tuple(pairs)
    taken = [gate for gate in found if gate is not None]
    if len(found) != many or any([not 0 <= gate < many for gate in taken]):
        raise BadGate("a gate that isn't there")
    if len(set(taken)) != len(taken):
        raise BadGate("a gate out that is told twice")
    return found


def is_full(pairs):
    """Tell whether no gate in is without one."""
    return None not in pairs


def filled(pairs):
    """Return a pairing with free gates in given the free gates out, in order."""
    free = [gate for gate in range(len(pairs)) if gate not in pairs]
    found = []
    used = 0
    for gate in pairs:
        if gate is None:
            found.append(free[used])
            used += 1
        else:
            found.append(gate)
    return tuple(found)


def turned_over(pairs):
    """Return, for each gate out, the gate in that has it, None for none."""
    found = [None for _ in pairs]
    for one, gate in enumerate(pairs):
        if gate is not None:
            found[gate] = one
    return tuple(found)


def behind(first, second):
    """Return what two pairings one behind the other make."""
    return tuple([None if gate is None else second[gate] for gate in first])


def circles(pairs):
    """Return the circles of a full pairing, each from its lowest gate on, in order."""
    seen = [False for _ in pairs]
    found = []
    for start in range(len(pairs)):
        circle = []
        gate = start
        while not seen[gate]:
            seen[gate] = True
            circle.append(gate)
            gate = pairs[gate]
        if circle != []:
            found.append(tuple(circle))
    return tuple(found)


def is_even(pairs):
    """Tell whether a full pairing comes of an even number of exchanges of two."""
    # A circle comes of one exchange less than it has gates.
    return (len(pairs) - len(circles(pairs))) % 2 == 0


def how_many(many):
    """Return how many full pairings there are."""
    found = 1
    for count in range(2, many + 1):
        found = found * count
    return found


def by_number(number, many):
    """Return the full pairing of a number from nought on, in order of the first gates; BadSize past the last."""
    if not 0 <= number < how_many(many):
        raise BadSize("a number that no full pairing has")
    left = list(range(many))
    rest = number
    found = []
    for place in range(many):
        behind_it = how_many(many - place - 1)
        found.append(left.pop(rest // behind_it))
        rest = rest % behind_it
    return tuple(found)


def number_of(pairs):
    """Return a full pairing's number."""
    number = 0
    for place, gate in enumerate(pairs):
        lesser = [other for other in pairs[place + 1:] if other < gate]
        number = number + len(lesser) * how_many(len(pairs) - place - 1)
    return number


def logarithm(many):
    """Return the power of two that a number is; BadSize for one that is none."""
    count = 0
    power = 1
    while power < many:
        power = 2 * power
        count += 1
    if power != many:
        raise BadSize("a number that is no power of two")
    return count


def power_of_two(count):
    """Return two to a power."""
    power = 1
    for _ in range(count):
        power = 2 * power
    return power


def figures(number, count):
    """Return so many binary figures of a number, the highest first."""
    found = []
    rest = number
    for _ in range(count):
        found.append(rest % 2)
        rest = rest // 2
    return tuple(found[::-1])


def from_figures(row):
    """Return the number of binary figures, the highest first."""
    number = 0
    for figure in row:
        number = 2 * number + figure
    return number


def shuffled(many):
    """Return the perfect shuffle: each number's highest figure put last."""
    count = logarithm(many)
    rows = [figures(number, count) for number in range(many)]
    return tuple([from_figures(row[1:] + row[:1]) for row in rows])


def mirrored(many):
    """Return the pairing that turns each number's figures round."""
    count = logarithm(many)
    return tuple([from_figures(figures(number, count)[::-1]) for number in range(many)])


def is_order(pairs):
    """Tell whether the gates out of a pairing rise with the gates in."""
    taken = [gate for gate in pairs if gate is not None]
    return all([low < high for low, high in zip(taken, taken[1:])])


def apart(one, other):
    """Return at how many gates two pairings are not one."""
    return len([gate for gate, twin in zip(one, other) if gate != twin])
