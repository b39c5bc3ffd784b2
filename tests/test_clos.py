"""Points [1], [8] and [30]: three rows of switches."""

import itertools
import random

from crossloom.clos import (
    Clos, assigned, blocking_row, can_carry, carried_net, never_blocks, short_row)
from crossloom.errors import BadGate, BadNet, BadSize, Blocked
from tests.every import Case, all_pairings, full_pairings, with_free_gates


def net_with(middle, gates, switches, calls):
    """Return a net with calls, (gate in, gate out, middle one)."""
    net = Clos(middle, gates, switches)
    for one, other, number in calls:
        net.put_by(one, other, number)
    return net


def are_sound(net):
    """Tell whether no switch has two calls by one middle one, made without the program."""
    spots = []
    for one, (other, number) in net.calls.items():
        spots += [("in", one // net.gates, number), ("out", other // net.gates, number)]
    return len(spots) == len(set(spots))


class Fields(Case):
    def test_fields_and_size(self):
        net = Clos(3, 2, 4)
        self.same((net.middle, net.gates, net.switches, net.calls), (3, 2, 4, {}))
        self.same([net.size(), Clos(1, 1, 1).size(), Clos(2, 5, 3).size()], [8, 1, 15])

    def test_nets_that_can_not_be(self):
        for told in itertools.product((-1, 0, 1, 2), repeat=3):
            if min(told) < 1:
                self.refused(BadNet, Clos, *told)
            else:
                self.same(Clos(*told).calls, {})

    def test_calls_are_a_table(self):
        net = Clos(3, 2, 2)
        self.same(net.put(2, 1), 0)
        self.same(net.put_by(0, 3, 2), None)
        self.same(net.calls, {2: (1, 0), 0: (3, 2)})
        self.same(net.shown(), ((0, 3, 2), (2, 1, 0)))
        self.same(net.end(2), None)
        self.same(net.calls, {0: (3, 2)})
        self.same(net.shown(), ((0, 3, 2),))

    def test_ends(self):
        net = Clos(1, 3, 3)
        self.same([net.ends(0, 8), net.ends(3, 2), net.ends(5, 6)], [(0, 2), (1, 0), (1, 2)])


class Calling(Case):
    def test_the_first_middle_one_free_at_both_ends(self):
        net = net_with(4, 3, 3, ((0, 0, 0), (1, 3, 1), (3, 4, 2)))
        self.same(net.free_middle(2, 5), [3])
        self.same(net.free_middle(2, 8), [2, 3])
        self.same(net.free_middle(8, 8), [0, 1, 2, 3])
        self.same([net.used_in(switch) for switch in range(3)], [[0, 1], [2], []])
        self.same([net.used_out(switch) for switch in range(3)], [[0], [1, 2], []])
        self.same(net.put(2, 5), 3)
        self.same(net.put(8, 8), 0)
        self.same(net.shown(), ((0, 0, 0), (1, 3, 1), (2, 5, 3), (3, 4, 2), (8, 8, 0)))

    def test_used_in_order(self):
        net = net_with(3, 3, 2, ((0, 3, 2), (1, 0, 0), (2, 4, 1)))
        self.same([net.used_in(0), net.used_out(1), net.used_out(0)], [[0, 1, 2], [1, 2], [0]])

    def test_at(self):
        net = net_with(3, 2, 3, ((0, 4, 2), (1, 0, 0), (5, 1, 1)))
        self.same([net.at(0, 0, number) for number in range(3)], [1, None, 0])
        self.same([net.at(1, 0, number) for number in range(3)], [1, 5, None])
        self.same([net.at(1, 2, number) for number in range(3)], [None, None, 0])
        self.same([net.at(0, 1, 0), net.at(0, 2, 1)], [None, 5])

    def test_calls_of_gates_that_are_not_there_or_have_one(self):
        net = net_with(2, 2, 2, ((0, 3, 0), (2, 1, 1)))
        for one, other in ((-1, 0), (4, 0), (1, -1), (1, 4), (0, 0), (1, 3), (2, 0), (3, 1), (0, 3), (9, 9)):
            for call in (net.check, net.put, net.put_moving):
                self.refused(BadGate, call, one, other)
            for number in (-1, 0, 1, 2):
                self.refused(BadGate, net.put_by, one, other, number)
        self.same(net.check(1, 0), None)
        self.same(net.shown(), ((0, 3, 0), (2, 1, 1)))

    def test_a_gate_that_has_a_call_is_told_ahead_of_no_way(self):
        net = net_with(1, 2, 2, ((0, 0, 0),))
        for call in (net.put, net.put_moving):
            self.refused(BadGate, call, 0, 1)
            self.refused(BadGate, call, 1, 0)
            self.refused(Blocked, call, 1, 1)

    def test_ends_of_gates_without_a_call(self):
        net = net_with(2, 2, 2, ((0, 3, 0),))
        for one in (-1, 1, 3, 4, 9):
            self.refused(BadGate, net.end, one)
        net.end(0)
        self.refused(BadGate, net.end, 0)

    def test_middle_ones_that_are_not_free(self):
        net = net_with(3, 2, 2, ((0, 3, 0), (2, 1, 1)))
        for number in (-1, 0, 1, 3, 7):
            self.refused(Blocked, net.put_by, 1, 0, number)
        self.same(net.put_by(1, 0, 2), None)
        self.same(net.calls[1], (0, 2))

    def test_no_way(self):
        net = net_with(2, 2, 2, ((0, 2, 0), (2, 0, 1)))
        self.refused(Blocked, net.put, 1, 1)
        self.same(net.put(1, 3), 1)
        self.same(Clos(1, 1, 1).put(0, 0), 0)

    def test_is_sound(self):
        net = net_with(2, 2, 2, ((0, 2, 0), (2, 0, 1)))
        self.same([net.is_sound(), Clos(1, 1, 1).is_sound()], [True, True])
        net.calls[1] = (1, 0)
        self.same(net.is_sound(), False)
        net.calls[1] = (1, 1)
        self.same(net.is_sound(), False)
        del net.calls[1]
        net.calls[3] = (3, 0)
        self.same(net.is_sound(), False)


class Moving(Case):
    def test_only_where_it_must_be(self):
        net = net_with(2, 2, 2, ((0, 2, 0),))
        self.same(net.put_moving(1, 3), ())
        self.same(net.shown(), ((0, 2, 0), (1, 3, 1)))

    def test_the_two_first_free_ones_are_exchanged(self):
        net = net_with(2, 2, 2, ((0, 2, 0), (2, 0, 1)))
        # Switch in 0 has 1 free, switch out 0 has 0: from there the way goes by 1 to gate 2, and no further.
        self.same(net.put_moving(1, 1), (2,))
        self.same(net.shown(), ((0, 2, 0), (1, 1, 1), (2, 0, 0)))

    def test_a_longer_way(self):
        # Switch out 1 has only 0 free, switch in 2 only 1: from there by 1 to gate 3, by 0 to gate 2, by 1 to gate 0.
        net = net_with(2, 2, 3, ((0, 0, 1), (2, 1, 0), (3, 2, 1), (4, 4, 0)))
        self.same(net.put_moving(5, 3), (0, 2, 3))
        self.same(net.shown(), ((0, 0, 0), (2, 1, 1), (3, 2, 0), (4, 4, 0), (5, 3, 1)))
        self.same(net.is_sound(), True)

    def test_a_switch_whose_middle_ones_are_all_used(self):
        for calls, call in ((((0, 3, 0), (1, 6, 1)), (2, 0)), (((3, 0, 0), (6, 1, 1)), (0, 2))):
            net = net_with(2, 3, 3, calls)
            self.refused(Blocked, net.put_moving, *call)
            self.refused(Blocked, net.put, *call)

    def test_exchange(self):
        net = net_with(3, 2, 3, ((0, 0, 1), (2, 1, 0), (3, 2, 1), (4, 4, 2), (5, 5, 0)))
        self.same(net.exchange(1, 1, 0), (0, 2, 3))
        self.same(net.shown(), ((0, 0, 0), (2, 1, 1), (3, 2, 0), (4, 4, 2), (5, 5, 0)))
        self.same(net.exchange(1, 1, 2), ())
        self.same(net.exchange(2, 2, 0), (4, 5))
        self.same(net.shown(), ((0, 0, 0), (2, 1, 1), (3, 2, 0), (4, 4, 0), (5, 5, 2)))
        self.same(net.is_sound(), True)

    def test_a_way_that_comes_back_and_one_of_one_middle_one(self):
        net = net_with(2, 2, 2, ((0, 0, 0), (1, 2, 1), (2, 1, 1), (3, 3, 0)))
        self.same(net.exchange(0, 0, 1), (0, 1, 2, 3))
        self.same(net.shown(), ((0, 0, 1), (1, 2, 0), (2, 1, 0), (3, 3, 1)))
        self.same(net.exchange(0, 1, 1), (0,))
        self.same(net.shown(), ((0, 0, 1), (1, 2, 0), (2, 1, 0), (3, 3, 1)))


class ComingAndGoing(Case):
    def calls_come_and_go(self, net, draws, times, put):
        for _ in range(times):
            one = draws.randrange(net.size())
            if one in net.calls:
                net.end(one)
                continue
            free = sorted(set(range(net.size())) - {call[0] for call in net.calls.values()})
            put(one, draws.choice(free))
            self.assertTrue(net.is_sound() and are_sound(net))

    def test_with_twice_the_gates_less_one_no_call_is_blocked(self):
        for gates, switches in itertools.product((1, 2, 3, 4), (1, 2, 3, 4)):
            draws = random.Random(gates * 10 + switches)
            net = Clos(2 * gates - 1, gates, switches)
            self.calls_come_and_go(net, draws, 150, net.put)
            worst = Clos(2 * gates - 1, gates, switches)

            def put_by_any(one, other):
                worst.put_by(one, other, draws.choice(worst.free_middle(one, other)))
            self.calls_come_and_go(worst, draws, 150, put_by_any)

    def test_with_as_many_as_gates_none_is_blocked_with_others_moved(self):
        moved = 0
        for gates, switches in itertools.product((1, 2, 3, 4), (1, 2, 3, 4)):
            net = Clos(gates, gates, switches)

            def put_and_look(one, other):
                nonlocal moved
                before = dict(net.calls)
                mine = [number for number in range(gates) if number not in net.used_in(one // gates)]
                theirs = [number for number in range(gates) if number not in net.used_out(other // gates)]
                way = net.put_moving(one, other)
                self.same(way, tuple(sorted(gate for gate in before if before[gate] != net.calls[gate])))
                self.assertTrue(all(net.calls[gate][0] == before[gate][0] for gate in before))
                both = [number for number in mine if number in theirs]
                self.same(net.calls[one], (other, both[0] if both else mine[0]))
                self.same(way == (), both != [])
                self.assertTrue({net.calls[gate][1] for gate in way} <= {mine[0], theirs[0]})
                moved = max(moved, len(way))
            self.calls_come_and_go(net, random.Random(gates * 10 + switches), 200, put_and_look)
        self.assertGreater(moved, 3)


class Everything(Case):
    def sound_nets(self, middle):
        """Return a net of two switches of two gates for each way in which its calls can stand."""
        for pairs in all_pairings(4):
            ones = [one for one, other in enumerate(pairs) if other is not None]
            for numbers in itertools.product(range(middle), repeat=len(ones)):
                net = Clos(middle, 2, 2)
                net.calls = {one: (pairs[one], number) for one, number in zip(ones, numbers)}
                if are_sound(net):
                    yield net

    def free_pairs(self, net):
        taken = [call[0] for call in net.calls.values()]
        free = [other for other in range(4) if other not in taken]
        return [(one, other) for one in range(4) if one not in net.calls for other in free]

    def test_with_three_middle_ones_no_call_is_blocked_however_the_others_stand(self):
        for net in self.sound_nets(3):
            self.same(net.is_sound(), True)
            for one, other in self.free_pairs(net):
                free = net.free_middle(one, other)
                self.same(net.put(one, other), free[0])
                self.same(net.is_sound(), True)
                net.end(one)

    def test_with_two_middle_ones_none_is_blocked_with_others_moved(self):
        for net in self.sound_nets(2):
            before = dict(net.calls)
            for one, other in self.free_pairs(net):
                moved = net.put_moving(one, other)
                self.same(moved, tuple(sorted(gate for gate in before if net.calls[gate] != before[gate])))
                self.same(net.is_sound() and are_sound(net), True)
                net.calls = dict(before)


class TooSmall(Case):
    def test_never_blocks_and_can_carry(self):
        for gates in range(1, 6):
            found = [(never_blocks(middle, gates), can_carry(middle, gates)) for middle in range(1, 12)]
            self.same(found, [(middle >= 2 * gates - 1, middle >= gates) for middle in range(1, 12)])

    def test_the_told_rows(self):
        self.same(blocking_row(1, 2), (((0, 4, 0),), (1, 1)))
        self.same(blocking_row(2, 2), (((0, 4, 0), (2, 0, 1)), (1, 1)))
        self.same(blocking_row(3, 2), None)
        self.same(blocking_row(1, 1), None)
        self.same(blocking_row(1, 3), (((0, 6, 0),), (2, 2)))
        self.same(blocking_row(4, 3), (((0, 6, 0), (1, 7, 1), (3, 0, 2), (4, 1, 3)), (2, 2)))
        self.same(short_row(1, 2), ((0, 0), (1, 1)))
        self.same(short_row(2, 2), None)
        self.same(short_row(2, 4), ((0, 0), (1, 1), (2, 2), (3, 3)))

    def test_a_row_that_blocks_for_each_net_that_is_too_small(self):
        for gates in range(1, 7):
            for middle in range(1, 2 * gates + 2):
                told = blocking_row(middle, gates)
                self.same(told is None, never_blocks(middle, gates))
                if told is not None:
                    net = net_with(middle, gates, 3, told[0])
                    self.same(net.is_sound(), True)
                    self.same(net.check(*told[1]), None)
                    self.refused(Blocked, net.put, *told[1])

    def test_a_short_row_by_trying_all_middle_ones(self):
        for gates in range(1, 6):
            for middle in range(1, gates + 2):
                row = short_row(middle, gates)
                self.same(row is None, can_carry(middle, gates))
                if row is not None:
                    self.assertEqual(len(row), gates)
                    for numbers in itertools.product(range(middle), repeat=gates):
                        net = Clos(middle, gates, 1)
                        with self.assertRaises(Blocked):
                            for call, number in zip(row, numbers):
                                net.put_by(*call, number)


class Assigned(Case):
    def assigned_as_told(self, pairs, gates):
        found = self.both(assigned, pairs, gates)
        calls = [(one, other) for one, other in enumerate(pairs) if other is not None]
        self.assertEqual(len(found), len(calls))
        self.assertTrue(all(0 <= number < gates for number in found))
        wanted = tuple((one, other, number) for (one, other), number in zip(calls, found))
        for middle in (gates, gates + 2):
            net = self.both(lambda rows: carried_net(rows, middle, gates).shown(), pairs)
            self.same(net, wanted)
        net = carried_net(pairs, gates, gates)
        self.same((net.middle, net.gates, net.switches), (gates, gates, len(pairs) // gates))
        self.assertTrue(are_sound(net))

    def test_all_pairings_of_up_to_six_gates(self):
        for many in range(1, 7):
            for gates in range(1, many + 1):
                if many % gates == 0:
                    for pairs in full_pairings(many):
                        self.assigned_as_told(pairs, gates)

    def test_pairings_with_gates_left_out(self):
        for pairs in all_pairings(4):
            for gates in (1, 2, 4):
                self.assigned_as_told(pairs, gates)
        for full in full_pairings(6)[::40]:
            for pairs in with_free_gates(full):
                for gates in (2, 3):
                    self.assigned_as_told(pairs, gates)

    def test_middle_ones_by_the_colours(self):
        self.same(assigned((0, 1, 2, 3), 2), (0, 1, 0, 1))
        self.same(assigned((0, 2, 1, 3), 2), (1, 0, 0, 1))
        self.same(assigned((None, 2, None, 3), 2), (1, 0))
        self.same(assigned((), 2), ())
        self.same(assigned((None, None), 1), ())

    def test_too_few_middle_ones(self):
        for middle, gates in ((1, 2), (0, 1), (3, 4)):
            self.refused(Blocked, carried_net, (0, 1, 2, 3), middle, gates)
            self.refused(Blocked, carried_net, [0, 1, 1, 9], middle, gates)

    def test_nets_that_can_not_be(self):
        self.refused(BadNet, carried_net, (), 2, 2)
        self.refused(BadNet, carried_net, (0, 1), 3, 3)
        self.refused(BadNet, carried_net, (0, 1), 0, 0)

    def test_what_is_no_pairing_of_switches(self):
        for pairs, gates in (((0, 4), 2), ((2, 0, 1), 2), ([0, 1, -1, 2], 2), ((0, 0, 0, None), 2), ((0,), 0)):
            self.refused(BadSize, assigned, pairs, gates)
        for pairs, gates in (((0, 4), 2), ((2, 0, 1), 2), ((0, 0, 0, None), 2)):
            self.refused(BadSize, carried_net, pairs, gates, gates)
        self.refused(BadGate, carried_net, (0, 0, None, None), 2, 2)
