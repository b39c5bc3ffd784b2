"""Points [1] and [4]: nets that carry every pairing."""

import math

from crossloom.benes import (
    carries, halves_of, in_halves, least_elements, loops, net_of, partner, parted_wires, settings_for, size_of)
from crossloom.elements import Net, all_carried, all_settings
from crossloom.errors import BadGate, BadNet, BadSize
from tests.every import Case, all_pairings, eight_gates, eight_gates_some_free, full_pairings


class Sizes(Case):
    def test_size_of(self):
        for many, wanted in ((2, (1, 1)), (4, (3, 6)), (8, (5, 20)), (16, (7, 56)), (32, (9, 144))):
            self.same(size_of(many), wanted)
            self.same((net_of(many).stages(), net_of(many).count()), wanted)

    def test_sizes_that_are_refused(self):
        for call in (size_of, net_of):
            self.refused(BadNet, call, 1)
            for many in (-4, 0, 3, 5, 6, 12):
                self.refused(BadSize, call, many)

    def test_least_elements(self):
        for many, wanted in ((0, 0), (1, 0), (2, 1), (3, 3), (4, 5), (5, 7), (8, 16)):
            self.same(least_elements(many), wanted)
        for many in range(2, 20):
            least = least_elements(many)
            self.assertTrue(2 ** (least - 1) < math.factorial(many) <= 2 ** least)


class Wires(Case):
    def test_parted_wires(self):
        self.same(parted_wires(2), (0, 1))
        self.same(parted_wires(4), (0, 2, 1, 3))
        self.same(parted_wires(8), (0, 4, 1, 5, 2, 6, 3, 7))
        self.same(parted_wires(0), ())

    def test_in_halves_of_rows(self):
        rows = ((1, 0), (2, 0, 1, 3))
        self.same(self.both(lambda pair: in_halves(pair[0], pair[1]), rows), (1, 0, 4, 2, 3, 5))
        self.same(in_halves((), ()), ())

    def test_in_halves_of_nets_and_of_all_their_wires(self):
        one = Net(2, ((0, 1), (1, 0)))
        other = Net(4, ((0, 1, 2, 3), (3, 1, 2, 0)))
        wanted = ((0, 1, 2, 3, 4, 5), (1, 0, 5, 3, 4, 2))
        self.same(in_halves(one, other), wanted)
        self.same(self.both(lambda pair: in_halves(pair[0], pair[1]), (one.wires, other.wires)), wanted)

    def test_the_nets(self):
        self.same(net_of(2).wires, ((0, 1), (0, 1)))
        self.same(net_of(4).wires, ((0, 1, 2, 3), (0, 2, 1, 3), (0, 2, 1, 3), (0, 1, 2, 3)))
        self.same(net_of(8).wires, (
            (0, 1, 2, 3, 4, 5, 6, 7), (0, 4, 1, 5, 2, 6, 3, 7), (0, 2, 1, 3, 4, 6, 5, 7),
            (0, 2, 1, 3, 4, 6, 5, 7), (0, 2, 4, 6, 1, 3, 5, 7), (0, 1, 2, 3, 4, 5, 6, 7)))

    def test_the_nets_carry_all(self):
        self.same(all_carried(net_of(2)), tuple(full_pairings(2)))
        self.same(all_carried(net_of(4)), tuple(full_pairings(4)))

    def test_partner(self):
        self.same([partner(gate) for gate in range(8)], [1, 0, 3, 2, 5, 4, 7, 6])


class Halves(Case):
    def test_loop_by_loop(self):
        self.same(self.both(halves_of, ()), ())
        self.same(self.both(halves_of, (1, 0)), (0, 1))
        self.same(self.both(halves_of, (0, 1, 2, 3)), (0, 1, 0, 1))
        # One loop: 0 up, 1 down to gate out 2, whose element's other gate comes from 3, so 3 goes up.
        self.same(self.both(halves_of, (0, 2, 1, 3)), (0, 1, 1, 0))
        self.same(self.both(halves_of, (2, 0, 3, 1)), (0, 1, 1, 0))

    def test_no_element_gets_two_and_each_loop_begins_above(self):
        for pairs in full_pairings(4) + eight_gates(31):
            halves = self.both(halves_of, pairs)
            for low in range(0, len(pairs), 2):
                self.assertEqual({halves[low], halves[low + 1]}, {0, 1})
                ends = [halves[pairs.index(low)], halves[pairs.index(low + 1)]]
                self.assertEqual(set(ends), {0, 1})
            rings = rings_of(pairs)
            for ring in rings:
                self.assertEqual(halves[min(ring)], 0)
            self.same(self.both(loops, pairs), len(rings))

    def test_loops(self):
        self.same([loops(()), loops((0, 1)), loops((0, 1, 2, 3)), loops((0, 2, 1, 3))], [0, 1, 2, 1])
        self.same(loops(tuple(range(8))), 4)


def rings_of(pairs):
    """Return the gates in that hang together by elements on either side, made without the program."""
    rings = [{gate, gate ^ 1} for gate in range(0, len(pairs), 2)]
    for low in range(0, len(pairs), 2):
        ends = {pairs.index(low), pairs.index(low + 1)}
        touched = [ring for ring in rings if ring & ends]
        rings = [ring for ring in rings if not ring & ends] + [set().union(*touched)]
    return rings


class SettingsFor(Case):
    def test_each_setting_of_four_gates_makes_a_pairing(self):
        net = net_of(4)
        for settings in all_settings(net):
            made = net.carried(settings)
            self.same(net.carried(settings_for(made)), made)

    def test_two_gates(self):
        self.same(self.both(settings_for, (0, 1)), [[0]])
        self.same(self.both(settings_for, (1, 0)), [[1]])
        self.same(self.both(settings_for, (None, 0)), [[1]])
        self.same(self.both(settings_for, (None, None)), [[0]])

    def test_settings_go_by_the_loops(self):
        self.same(settings_for((0, 1, 2, 3)), [[0, 0], [0, 0], [0, 0]])
        self.same(settings_for((3, 2, 1, 0)), [[0, 0], [1, 1], [1, 1]])
        self.same(settings_for((0, 2, 1, 3)), [[0, 1], [0, 1], [0, 1]])
        self.same(settings_for((2, 0, 3, 1)), [[0, 1], [1, 0], [1, 0]])

    def test_all_pairings_of_four_gates_some_left_out_too(self):
        net = net_of(4)
        for pairs in all_pairings(4):
            self.carried_by(net, pairs)

    def test_pairings_of_eight_gates(self):
        net = net_of(8)
        for pairs in eight_gates(31) + eight_gates_some_free(31):
            self.carried_by(net, pairs)

    def test_pairings_of_sixteen_gates(self):
        net = net_of(16)
        for step in (1, 3, 5, 7, 9, 11, 13, 15):
            self.carried_by(net, tuple((place * step + 3) % 16 for place in range(16)))

    def carried_by(self, net, pairs):
        free = iter([gate for gate in range(len(pairs)) if gate not in pairs])
        full = tuple(next(free) if gate is None else gate for gate in pairs)
        settings = self.both(settings_for, pairs)
        self.same(type(settings), list)
        self.same([type(row) for row in settings], [list] * net.stages())
        self.same(net.carried(settings), full)
        self.same(settings, settings_for(full))
        self.same(self.both(carries, pairs), True)

    def test_first_stages_go_by_the_halves(self):
        for pairs in full_pairings(4) + eight_gates():
            halves = halves_of(pairs)
            settings = settings_for(pairs)
            self.same(settings[0], list(halves[::2]))
            self.same(settings[-1], [halves[pairs.index(gate)] for gate in range(0, len(pairs), 2)])

    def test_what_is_no_pairing(self):
        for pairs in ((0, 0), (0, 2), (-1, 0), (0, 1, 2, 2), (None, 4, None, None)):
            for call in (settings_for, carries):
                self.refused(BadGate, call, pairs)
                self.refused(BadGate, call, list(pairs))

    def test_numbers_of_gates_that_no_net_has(self):
        for call in (settings_for, carries):
            self.refused(BadNet, call, (0,))
            self.refused(BadNet, call, [None])
            for pairs in ((), (0, 1, 2), [None, None, 0], (5, 4, 3, 2, 1, 0)):
                self.refused(BadSize, call, pairs)
