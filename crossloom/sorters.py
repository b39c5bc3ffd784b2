"""Sorters: nets of comparers, which of them sort, and fabrics of a sorter and a banyan."""

from crossloom.banyans import passes
from crossloom.errors import BadNet
from crossloom.pairings import figures, logarithm, power_of_two


def check_net(net, many):
    """Return a net, pairs of unlike wires, as a tuple; BadNet for wires that aren't there."""
    found = tuple([tuple(pair) for pair in net])
    if any([not 0 <= low < many or not 0 <= high < many or low == high for low, high in found]):
        raise BadNet("a wire that isn't there, or is compared with itself")
    return found


def through(net, row):
    """Return a row led through a net: at each pair of wires the lesser goes to the first one."""
    found = list(row)
    for low, high in net:
        if found[low] > found[high]:
            found[low], found[high] = found[high], found[low]
    return tuple(found)


def odd_even(many):
    """Return the net that sorts halves and merges them, evens and odds; for a power of two."""
    # Asked only for its refusal: the halves go on halving down to one wire.
    logarithm(many)
    return sorted_part(0, many)


def sorted_part(low, many):
    """Return the pairs that sort so many wires from one on."""
    if many < 2:
        return ()
    half = many // 2
    return sorted_part(low, half) + sorted_part(low + half, half) + merged_part(low, many, 1)


def merged_part(low, many, step):
    """Return the pairs that merge two sorted halves of wires that stand so many steps apart."""
    if many < 2:
        return ()
    if many == 2:
        return ((low, low + step),)
    half = many // 2
    evens = merged_part(low, half, 2 * step)
    odds = merged_part(low + step, half, 2 * step)
    # Evens and odds are sorted each by itself now: each odd one is put right with the even one behind it.
    last = [(low + place * step, low + (place + 1) * step) for place in range(1, many - 1, 2)]
    return evens + odds + tuple(last)


def bitonic(many):
    """Return the net of rising and falling rows, merged again and again; for a power of two."""
    found = []
    for power in range(logarithm(many)):
        for nearer in range(power, -1, -1):
            found.extend(turned_layer(many, power_of_two(power + 1), power_of_two(nearer)))
    return tuple(found)


def turned_layer(many, size, step):
    """Return the pairs of wires so many steps apart, turned over in every second row of a size."""
    lows = [low for low in range(many) if low // step % 2 == 0]
    return [(low, low + step) if low // size % 2 == 0 else (low + step, low) for low in lows]


def bubble(many):
    """Return the net that carries the greatest down, again and again; for any number."""
    return tuple([(low, low + 1) for last in range(many - 1, 0, -1) for low in range(last)])


def sorts_all(net, many):
    """Tell whether a net sorts every row: just where it sorts all rows of noughts and ones."""
    return fault_of(net, many) is None


def fault_of(net, many):
    """Return the first row of noughts and ones, by its number, that a net doesn't sort, None where it sorts all."""
    for number in range(power_of_two(many)):
        row = row_of(number, many)
        if not is_rising(through(net, row)):
            return row
    return None


def row_of(number, many):
    """Return the row of noughts and ones of a number: a place's weight is two to its number."""
    return figures(number, many)[::-1]


def is_rising(row):
    """Tell whether nothing in a row stands behind a greater one."""
    return all([one <= other for one, other in zip(row, row[1:])])


def layers(net):
    """Return a net's pairs in layers: each as early as its wires are free."""
    free = {}
    found = []
    for low, high in net:
        place = max(free.get(low, 0), free.get(high, 0))
        if place == len(found):
            found.append([])
        found[place].append((low, high))
        free[low] = place + 1
        free[high] = place + 1
    return tuple([tuple(layer) for layer in found])


def without_idle(net, many):
    """Return a net without the pairs that exchange in no row of noughts and ones."""
    busy = {}
    for number in range(power_of_two(many)):
        for place in exchanges(net, row_of(number, many)):
            busy[place] = True
    return tuple([tuple(pair) for place, pair in enumerate(net) if place in busy])


def exchanges(net, row):
    """Return the places of a net's pairs that exchange when a row is led through."""
    found = list(row)
    places = []
    for place, (low, high) in enumerate(net):
        if found[low] > found[high]:
            found[low], found[high] = found[high], found[low]
            places.append(place)
    return places


def sorted_in(pairs):
    """Return a pairing whose cells a sorter has put side by side, rising by their gates out, bare ones last."""
    taken = sorted([gate for gate in pairs if gate is not None])
    return tuple(taken + [None for _ in range(len(pairs) - len(taken))])


def fabric_passes(pairs):
    """Tell whether a sorter with a banyan behind it carries a pairing."""
    return passes(sorted_in(pairs))


def origin(pairs, place):
    """Return the gate in whose cell a sorter puts at a place, None for none."""
    cells = sorted([(gate, one) for one, gate in enumerate(pairs) if gate is not None])
    if not 0 <= place < len(cells):
        return None
    return cells[place][1]
