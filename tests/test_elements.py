"""Points [1], [3] and [30]: nets of elements."""

import itertools

from crossloom.elements import Net, all_carried, all_settings, joined, plain_wires
from crossloom.errors import BadGate, BadNet
from tests.every import Case, as_lists, as_tuples

# A net of four gates and two stages whose wires are all unlike.
WIRES = ((1, 3, 0, 2), (0, 2, 1, 3), (3, 2, 1, 0))


def traced(wires, settings, gate):
    """Return a gate's places, by the words of point [3], made without the program."""
    place = wires[0][gate]
    places = [place]
    for stage, row in enumerate(settings):
        if row[place // 2] == 1:
            place = place + 1 if place % 2 == 0 else place - 1
        place = wires[stage + 1][place]
        places.append(place)
    return tuple(places)


class Nets(Case):
    def test_fields(self):
        for wires in (WIRES, as_lists(WIRES), [WIRES[0], list(WIRES[1]), WIRES[2]]):
            before = as_lists(wires)
            net = Net(4, wires)
            self.same(net.many, 4)
            self.same(net.wires, WIRES)
            self.assertEqual(as_lists(wires), before)

    def test_counts(self):
        self.same((Net(4, WIRES).stages(), Net(4, WIRES).count()), (2, 4))
        self.same((Net(2, ((0, 1), (1, 0))).stages(), Net(2, ((0, 1), (1, 0))).count()), (1, 1))
        self.same((Net(6, [range(6)] * 4).stages(), Net(6, [range(6)] * 4).count()), (3, 9))

    def test_sizes_that_can_not_be(self):
        for many, wires in ((0, ((), ())), (1, ((0,), (0,))), (3, ((0, 1, 2), (0, 1, 2))), (-2, ((), ())),
                            (2, ()), (2, ((0, 1),)), (5, ((0, 1, 2, 3, 4),) * 3)):
            self.refused(BadNet, Net, many, wires)
            self.refused(BadNet, Net, many, as_lists(wires))

    def test_wires_that_are_no_pairing(self):
        for wires in (((0, 0), (0, 1)), ((0, 1), (0, 2)), ((0, 1), (0,)), ((0, 1), (0, 1, 2)), ((0, 1), (-1, 0))):
            self.refused(BadGate, Net, 2, wires)
            self.refused(BadGate, Net, 2, as_lists(wires))

    def test_wires_that_lead_nowhere(self):
        for wires in (((0, None), (0, 1)), ((0, 1), (None, None)), ((0, 1), (0, 1), (None, 0))):
            self.refused(BadNet, Net, 2, wires)
            self.refused(BadNet, Net, 2, as_lists(wires))

    def test_straight(self):
        self.same(Net(4, WIRES).straight(), [[0, 0], [0, 0]])
        self.same(Net(2, ((0, 1), (1, 0))).straight(), [[0]])
        rows = Net(4, WIRES).straight()
        rows[0][0] = 1
        self.same(rows, [[1, 0], [0, 0]])

    def test_plain_wires(self):
        for many in (0, 1, 2, 4, 8):
            self.same(plain_wires(many), tuple(range(many)))


class Settings(Case):
    def test_what_all_settings_carry_and_each_way(self):
        net = Net(4, WIRES)
        for row in itertools.product((0, 1), repeat=4):
            settings = (row[:2], row[2:])
            ways = [traced(WIRES, settings, gate) for gate in range(4)]
            self.same(self.both(net.carried, settings), tuple(way[-1] for way in ways))
            for gate in range(4):
                self.same(self.both(net.way, settings, gate), ways[gate])
            self.same(self.both(net.check, settings), as_lists(settings))

    def test_one_element(self):
        net = Net(2, ((0, 1), (1, 0)))
        self.same(net.carried([[0]]), (1, 0))
        self.same(net.carried([[1]]), (0, 1))
        self.same(net.way([[0]], 0), (0, 1))
        self.same(net.way([[1]], 0), (0, 0))

    def test_settings_that_can_not_be(self):
        net = Net(4, WIRES)
        for settings in ((), ((0, 0),), ((0, 0),) * 3, ((0, 0), (0,)), ((0, 0, 0), (0, 0)), ((0, 0), (0, 2)),
                         ((-1, 0), (0, 0)), ((0, 0), (None, 0))):
            for kind in (as_lists, as_tuples):
                self.refused(BadNet, net.check, kind(settings))
                self.refused(BadNet, net.carried, kind(settings))
                self.refused(BadNet, net.way, kind(settings), 0)

    def test_all_settings_in_their_order(self):
        net = Net(4, WIRES)
        wanted = [[list(row[:2]), list(row[2:])] for row in itertools.product((0, 1), repeat=4)]
        self.same(all_settings(net), wanted)
        self.same(all_settings(Net(2, ((0, 1), (0, 1)))), [[[0]], [[1]]])

    def test_more_settings_than_told(self):
        net = Net(4, WIRES)
        self.same(len(all_settings(net, 16)), 16)
        self.same(len(all_settings(net, most=17)), 16)
        for most in (15, 8, 1, 0, -1):
            self.refused(BadNet, all_settings, net, most)

    def test_most_settings_where_none_are_told(self):
        twelve = Net(8, (tuple(range(8)),) * 4)
        self.same(len(all_settings(twelve)), 4096)
        self.refused(BadNet, all_settings, Net(2, ((0, 1),) * 14))
        self.refused(BadNet, all_settings, twelve, 4095)

    def test_a_great_net_is_refused_ahead_of_its_settings(self):
        self.refused(BadNet, all_settings, Net(16, (tuple(range(16)),) * 9))
        self.refused(BadNet, all_carried, Net(16, (tuple(range(16)),) * 9))

    def test_settings_share_no_rows(self):
        rows = all_settings(Net(4, WIRES))
        rows[0][0][0] = 7
        self.same([row for settings in rows[1:] for row in settings if 7 in row], [])

    def test_all_carried_each_once_in_order(self):
        for wires in (WIRES, ((0, 1, 2, 3), (0, 1, 2, 3), (3, 2, 1, 0)), ((2, 3, 0, 1), (0, 1, 2, 3))):
            net = Net(4, wires)
            made = {net.carried(settings) for settings in all_settings(net)}
            self.same(all_carried(net), tuple(sorted(made)))
        self.same(all_carried(Net(2, ((0, 1), (0, 1), (0, 1)))), ((0, 1), (1, 0)))


class Joined(Case):
    def test_a_net_with_another_behind_it(self):
        one = Net(4, WIRES)
        other = Net(4, ((2, 0, 3, 1), (1, 0, 3, 2)))
        both = joined(one, other)
        self.same(both.wires, (WIRES[0], WIRES[1], (1, 3, 0, 2), (1, 0, 3, 2)))
        for first in all_settings(one):
            for second in all_settings(other):
                made = both.carried(first + second)
                led = [other.carried(second)[gate] for gate in one.carried(first)]
                self.same(made, tuple(led))

    def test_nets_of_unlike_counts(self):
        self.refused(BadNet, joined, Net(4, WIRES), Net(2, ((0, 1), (0, 1))))
        self.refused(BadNet, joined, Net(2, ((0, 1), (0, 1))), Net(4, WIRES))
