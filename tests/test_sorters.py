"""Points [1] and [6]: sorters."""

import itertools

from crossloom.errors import BadGate, BadNet, BadSize
from crossloom.sorters import (
    bitonic, bubble, check_net, fabric_passes, fault_of, layers, merged_part, odd_even, origin, sorted_in,
    sorted_part, sorts_all, through, without_idle)
from tests.every import Case, all_pairings, eight_gates, eight_gates_some_free

# A net of four wires that sorts all rows, pairs of it turned over, left out, told twice, and a bare one.
GOOD = ((0, 1), (2, 3), (0, 2), (1, 3), (1, 2))
NETS = [GOOD, (), ((0, 3),), GOOD[::-1], GOOD + GOOD, ((3, 0), (2, 1)) + GOOD, GOOD + ((3, 2),)]
NETS += [GOOD[:place] + GOOD[place + 1:] for place in range(5)]
NETS += [GOOD[:place] + ((GOOD[place][1], GOOD[place][0]),) + GOOD[place + 1:] for place in range(5)]
NETS += [tuple(row) for row in itertools.product(((0, 1), (1, 2), (3, 2), (0, 3)), repeat=4)]


def slow_rows(many):
    """Return all rows of noughts and ones by their numbers, a place's weight two to its number."""
    return sorted(itertools.product((0, 1), repeat=many), key=lambda row: sum(2 ** at * one for at, one in enumerate(row)))


def slow_through(net, row):
    """Return a row led through a net and the places of the pairs that exchanged, made without the program."""
    row = list(row)
    places = set()
    for place, (first, second) in enumerate(net):
        ends = [row[first], row[second]]
        row[first], row[second] = min(ends), max(ends)
        if ends != [row[first], row[second]]:
            places.add(place)
    return tuple(row), places


class Nets(Case):
    def test_nets_are_told_as_tuples(self):
        self.same(self.both(check_net, ((0, 1), (2, 0)), 3), ((0, 1), (2, 0)))
        self.same(self.both(check_net, (), 0), ())
        self.same(check_net([(0, 1), [1, 0]], 2), ((0, 1), (1, 0)))

    def test_wires_that_are_not_there(self):
        for net, many in ((((0, 1),), 1), (((0, 2),), 2), (((2, 0),), 2), (((-1, 0),), 2), (((0, -1),), 2),
                          (((1, 1),), 2), (((0, 1), (2, 2)), 3), (((0, 1),), 0), (((0, 1), (1, 0), (0, 3)), 3)):
            self.refused(BadNet, check_net, net, many)
            self.refused(BadNet, check_net, [list(pair) for pair in net], many)

    def test_all_pairs_of_three_wires(self):
        for pair in itertools.product((-1, 0, 1, 2, 3), repeat=2):
            if pair in itertools.permutations(range(3), 2):
                self.same(check_net([pair], 3), (pair,))
            else:
                self.refused(BadNet, check_net, [pair], 3)

    def test_rows_led_through(self):
        self.same(through(((0, 1),), (5, 3)), (3, 5))
        self.same(through(((1, 0),), [5, 3]), (5, 3))
        self.same(through(((1, 0),), [3, 5]), (5, 3))
        self.same(through((), (2, 1)), (2, 1))
        self.same(through((), ()), ())
        for net in NETS:
            for row in ((4, 3, 2, 1), (7, 7, -2, 7), (0, 0, 0, 0), (2, 9, 1, 9)):
                found = self.both(lambda rows: through(rows[0], rows[1]), (net, row))
                self.same(found, slow_through(net, row)[0])


class Builders(Case):
    def sorts_rows(self, net, many, rows):
        for row in rows:
            self.same(through(net, row), tuple(sorted(row)))
        self.same(check_net(net, many), net)

    def test_odd_even(self):
        self.same(odd_even(1), ())
        self.same(odd_even(2), ((0, 1),))
        self.same(odd_even(4), ((0, 1), (2, 3), (0, 2), (1, 3), (1, 2)))
        self.same([len(odd_even(many)) for many in (8, 16)], [19, 63])
        self.same([len(layers(odd_even(many))) for many in (2, 4, 8, 16)], [1, 3, 6, 10])

    def test_bitonic(self):
        self.same(bitonic(1), ())
        self.same(bitonic(2), ((0, 1),))
        self.same(bitonic(4), ((0, 1), (3, 2), (0, 2), (1, 3), (0, 1), (2, 3)))
        pairs = []
        for size, step in ((2, 1), (4, 2), (4, 1), (8, 4), (8, 2), (8, 1)):
            lows = [low for low in range(8) if low & step == 0]
            pairs += [(low + step, low) if low & size else (low, low + step) for low in lows]
        self.same(bitonic(8), tuple(pairs))
        self.same([len(bitonic(many)) for many in (8, 16)], [24, 80])
        self.same([len(layers(bitonic(many))) for many in (2, 4, 8, 16)], [1, 3, 6, 10])

    def test_bubble(self):
        self.same([bubble(0), bubble(1), bubble(2)], [(), (), ((0, 1),)])
        self.same(bubble(3), ((0, 1), (1, 2), (0, 1)))
        self.same(bubble(4), ((0, 1), (1, 2), (2, 3), (0, 1), (1, 2), (0, 1)))

    def test_all_sort_noughts_and_ones(self):
        for many in (1, 2, 4, 8):
            for net in (odd_even(many), bitonic(many), bubble(many)):
                self.sorts_rows(net, many, itertools.product((0, 1), repeat=many))
                self.same(self.both(sorts_all, net, many), True)
                self.same(self.both(fault_of, net, many), None)

    def test_all_sort_other_rows(self):
        rows = eight_gates() + [(3, 3, 3, 3, 3, 3, 3, 3), (5, -1, 5, 0, 7, 7, -1, 2), (9, 8, 7, 9, 8, 7, 9, 8)]
        for net in (odd_even(8), bitonic(8), bubble(8)):
            self.sorts_rows(net, 8, rows)
        for net in (odd_even(4), bitonic(4), bubble(4)):
            self.sorts_rows(net, 4, itertools.product(range(4), repeat=4))
        for many in (3, 5, 6):
            self.sorts_rows(bubble(many), many, itertools.product(range(3), repeat=many))

    def test_other_numbers_of_wires(self):
        for many in (-1, 0, 3, 5, 6, 7, 12):
            self.refused(BadSize, odd_even, many)
            self.refused(BadSize, bitonic, many)

    def test_a_part_sorts_its_wires_and_no_others(self):
        self.same(sorted_part(5, 0), ())
        self.same(sorted_part(5, 1), ())
        self.same(sorted_part(0, 8), odd_even(8))
        for low, many in ((0, 4), (3, 2), (2, 4)):
            net = sorted_part(low, many)
            for row in itertools.permutations(range(7)) if many == 2 else eight_gates(5)[:500]:
                wanted = row[:low] + tuple(sorted(row[low:low + many])) + row[low + many:]
                self.same(through(net, row), wanted)

    def test_a_part_merges_halves_of_wires_some_steps_apart(self):
        self.same(merged_part(0, 4, 1), ((0, 2), (1, 3), (1, 2)))
        self.same(merged_part(3, 2, 5), ((3, 8),))
        self.same(merged_part(0, 1, 1), ())
        self.same(merged_part(0, 0, 1), ())
        for low, many, step in ((0, 2, 1), (1, 4, 1), (0, 4, 2), (2, 4, 3), (1, 8, 2), (0, 8, 1)):
            wires = range(low, low + many * step, step)
            net = merged_part(low, many, step)
            for ones, others in itertools.product(range(many // 2 + 1), repeat=2):
                half = many // 2
                row = [2] * (low + many * step)
                for wire, one in zip(wires, [0] * (half - ones) + [1] * ones + [0] * (half - others) + [1] * others):
                    row[wire] = one
                found = through(net, row)
                self.same([found[wire] for wire in wires], [0] * (many - ones - others) + [1] * (ones + others))
                self.same([one for wire, one in enumerate(found) if wire not in wires],
                          [2] * (len(row) - many))


class Faults(Case):
    def test_nets_of_four_wires(self):
        for net in NETS:
            faults = [row for row in slow_rows(4) if slow_through(net, row)[0] != tuple(sorted(row))]
            self.same(self.both(fault_of, net, 4), faults[0] if faults else None)
            self.same(self.both(sorts_all, net, 4), faults == [])

    def test_the_first_row_by_its_number(self):
        self.same(fault_of((), 2), (1, 0))
        self.same(fault_of(((1, 0),), 2), (1, 0))
        self.same(fault_of(((0, 1),), 3), (1, 0, 0))
        self.same(fault_of(((0, 1), (1, 2)), 3), (1, 1, 0))
        self.same(fault_of((), 1), None)
        self.same(fault_of((), 0), None)

    def test_each_pair_of_the_sorters_is_needed(self):
        for many in (4, 8):
            net = odd_even(many)
            for place in range(len(net)):
                left = net[:place] + net[place + 1:]
                self.same(fault_of(left, many), first_fault(left, many))
                self.same(sorts_all(left, many), False)

    def test_idle_pairs(self):
        self.same(without_idle(GOOD, 4), GOOD)
        self.same(without_idle((), 4), ())
        self.same(without_idle(bubble(4) + odd_even(4), 4), bubble(4))
        self.same(without_idle(((0, 1), (0, 1), (1, 0)), 2), ((0, 1), (1, 0)))
        for net in NETS:
            used = set()
            for row in slow_rows(4):
                used |= slow_through(net, row)[1]
            kept = tuple(pair for place, pair in enumerate(net) if place in used)
            self.same(self.both(without_idle, net, 4), kept)

    def test_without_its_idle_pairs_a_net_does_the_same(self):
        for net in NETS:
            left = without_idle(net, 4)
            for row in list(itertools.permutations(range(4))) + slow_rows(4) + [(5, 5, 1, 3), (9, 0, 9, 0)]:
                self.same(through(left, row), through(net, row))
            self.same(sorts_all(left, 4), sorts_all(net, 4))


def first_fault(net, many):
    """Return the first row of noughts and ones that a net doesn't sort, made without the program."""
    return [row for row in slow_rows(many) if slow_through(net, row)[0] != tuple(sorted(row))][0]


class Layers(Case):
    def test_each_as_early_as_its_wires_are_free(self):
        self.same(layers(()), ())
        self.same(layers(GOOD), (((0, 1), (2, 3)), ((0, 2), (1, 3)), ((1, 2),)))
        self.same(layers(((2, 3), (3, 0), (1, 4), (0, 1))), (((2, 3), (1, 4)), ((3, 0),), ((0, 1),)))
        for net in NETS + [odd_even(8), bitonic(8), bubble(6)]:
            depth = {}
            rows = {}
            for pair in net:
                place = max([depth.get(wire, -1) for wire in pair]) + 1
                depth.update({wire: place for wire in pair})
                rows.setdefault(place, []).append(pair)
            self.same(self.both(layers, net), tuple(tuple(rows[place]) for place in range(len(rows))))


class Fabrics(Case):
    def test_cells_side_by_side(self):
        self.same(self.both(sorted_in, (None, 3, None, 1)), (1, 3, None, None))
        self.same(self.both(sorted_in, ()), ())
        self.same(self.both(sorted_in, (None,)), (None,))
        for pairs in all_pairings(4) + eight_gates_some_free():
            taken = sorted(gate for gate in pairs if gate is not None)
            self.same(self.both(sorted_in, pairs), tuple(taken) + (None,) * (len(pairs) - len(taken)))

    def test_a_sorter_with_a_banyan_carries_each_pairing(self):
        for pairs in all_pairings(1) + all_pairings(2) + all_pairings(4) + eight_gates() + eight_gates_some_free():
            self.same(self.both(fabric_passes, pairs), True)

    def test_what_no_fabric_carries(self):
        for pairs in ((0, 0), (0, 2), [-1, None], (3, None, 3, 1), (5, None)):
            self.refused(BadGate, fabric_passes, pairs)
        for pairs in ((), (0, 1, 2), [None, None, None]):
            self.refused(BadSize, fabric_passes, pairs)

    def test_origin(self):
        for pairs in all_pairings(4) + eight_gates_some_free():
            row = sorted_in(pairs)
            for place, goal in enumerate(row):
                self.same(self.both(origin, pairs, place), None if goal is None else pairs.index(goal))
        self.same([origin((2, None, 0), place) for place in (-1, 0, 1, 2, 3)], [None, 2, 0, None, None])
