"""Points [1] and [5]: banyans."""

import itertools

from crossloom.banyans import is_dense, load, meetings, own_settings, passes, plain_net, put, rounds, way
from crossloom.elements import all_carried
from crossloom.errors import BadGate, BadNet, BadSize, Blocked
from tests.every import Case, all_pairings, eight_gates, eight_gates_some_free


def slow_way(many, gate, goal):
    """Return the places behind each stage by figures written out, made without the program."""
    count = len(format(many, "b")) - 1
    here = format(gate, "b").zfill(count)
    there = format(goal, "b").zfill(count)
    return tuple(int((here[stage + 1:] + there[:stage + 1]) or "0", 2) for stage in range(count))


def slow_meetings(pairs):
    """Return all meetings of a pairing, made without the program."""
    many = len(pairs)
    found = []
    for low, high in itertools.combinations([gate for gate in range(many) if pairs[gate] is not None], 2):
        ways = zip(slow_way(many, low, pairs[low]), slow_way(many, high, pairs[high]))
        found += [(stage, one, low, high) for stage, (one, other) in enumerate(ways) if one == other]
    return tuple(sorted(found))


class Ways(Case):
    def test_all_ways(self):
        for many in (1, 2, 4, 8):
            for gate in range(many):
                for goal in range(many):
                    self.same(way(many, gate, goal), slow_way(many, gate, goal))
        self.same(way(1, 0, 0), ())
        self.same(way(8, 5, 6), (3, 7, 6))

    def test_other_numbers_of_gates(self):
        for many in (0, 3, 6, -2):
            self.refused(BadSize, way, many, 0, 0)

    def test_the_net(self):
        self.same(plain_net(2).wires, ((0, 1), (0, 1)))
        self.same(plain_net(4).wires, ((0, 2, 1, 3), (0, 2, 1, 3), (0, 1, 2, 3)))
        self.same((plain_net(8).stages(), plain_net(8).count(), plain_net(8).many), (3, 12, 8))

    def test_nets_that_can_not_be(self):
        self.refused(BadNet, plain_net, 1)
        for many in (-1, 0, 3, 6):
            self.refused(BadSize, plain_net, many)


class Meetings(Case):
    def test_all_pairings_of_up_to_four_gates(self):
        for many in (1, 2, 4):
            for pairs in all_pairings(many):
                found = self.both(meetings, pairs)
                self.same(found, slow_meetings(pairs))
                self.same(self.both(passes, pairs), found == ())

    def test_pairings_of_eight_gates(self):
        for pairs in eight_gates() + eight_gates_some_free():
            self.same(self.both(meetings, pairs), slow_meetings(pairs))

    def test_three_and_more_that_meet_are_told_two_by_two(self):
        pairs = (0, None, None, None, 1, None, None, None, 2, None, None, None, 3, None, None, None)
        self.same(self.both(meetings, pairs), (
            (0, 0, 0, 8), (0, 8, 4, 12),
            (1, 0, 0, 4), (1, 0, 0, 8), (1, 0, 0, 12), (1, 0, 4, 8), (1, 0, 4, 12), (1, 0, 8, 12),
            (2, 0, 0, 4), (2, 1, 8, 12)))
        self.same(load(pairs), 4)

    def test_what_is_no_pairing(self):
        for call in (meetings, passes, own_settings, rounds):
            for pairs in ((0, 0), (0, 4), [-1, 0], [0, 1, 1, None], (2, 1), (5, None)):
                self.refused(BadGate, call, pairs)

    def test_a_gate_out_told_twice_in_unlike_rounds(self):
        # The third gate would pass beside the first, but its gate out is the second one's.
        self.refused(BadGate, rounds, (0, None, 1, 1))

    def test_other_numbers_of_gates(self):
        for call in (meetings, passes, own_settings, rounds):
            for pairs in ((0, 1, 2), [2, None, 0], (0, 1, 2, 3, 4, 5)):
                self.refused(BadSize, call, pairs)
        for call in (meetings, passes, own_settings):
            self.refused(BadSize, call, ())
            self.refused(BadSize, call, (None, None, None))
            self.refused(BadSize, call, [])


class OwnSettings(Case):
    def carried_or_blocked(self, pairs, net):
        if slow_meetings(pairs) != ():
            self.refused(Blocked, own_settings, pairs)
            self.refused(Blocked, own_settings, list(pairs))
            return
        settings = self.both(own_settings, pairs)
        made = net.carried(settings)
        self.assertTrue(all(gate in (None, goal) for gate, goal in zip(pairs, made)))
        for gate, goal in enumerate(pairs):
            if goal is not None:
                places = net.way(settings, gate)
                shuffled_once = net.wires[0]
                ahead = tuple(shuffled_once[place] for place in slow_way(net.many, gate, goal)[:-1])
                self.same(places[1:], ahead + (goal,))
        self.free_ones_are_straight(pairs, net, settings)

    def free_ones_are_straight(self, pairs, net, settings):
        used = set()
        for gate, goal in enumerate(pairs):
            if goal is not None:
                places = net.way(settings, gate)[:-1]
                used |= {(stage, place // 2) for stage, place in enumerate(places)}
        for stage, row in enumerate(settings):
            self.assertEqual(len(row), net.many // 2)
            for number, setting in enumerate(row):
                self.assertTrue((stage, number) in used or setting == 0)

    def test_all_pairings_of_two_and_four_gates(self):
        for many in (2, 4):
            for pairs in all_pairings(many):
                self.carried_or_blocked(pairs, plain_net(many))

    def test_pairings_of_eight_gates(self):
        for pairs in eight_gates(211) + eight_gates_some_free(31):
            self.carried_or_blocked(pairs, plain_net(8))

    def test_just_what_the_net_carries_passes(self):
        carried = all_carried(plain_net(4))
        self.same([pairs for pairs in all_pairings(4) if None not in pairs and passes(pairs)], list(carried))

    def test_one_gate_and_some_settings(self):
        self.same(own_settings((0,)), [])
        self.same(own_settings((1, 0)), [[1]])
        self.same(own_settings((None, 0)), [[1]])
        self.same(own_settings((None,) * 4), [[0, 0], [0, 0]])
        self.same(own_settings((None, None, None, 0)), [[0, 1], [1, 0]])
        self.same(own_settings((0, 1, 2, 3)), [[0, 0], [0, 0]])


class Dense(Case):
    def test_is_dense(self):
        for pairs in all_pairings(4) + [(), (0,), (None,)]:
            ones = [gate for gate, goal in enumerate(pairs) if goal is not None]
            goals = [goal for goal in pairs if goal is not None]
            wanted = all(high == low + 1 for low, high in zip(ones, ones[1:])) and goals == sorted(goals)
            self.same(self.both(is_dense, pairs), wanted)

    def test_dense_pairings_pass(self):
        for pairs in all_pairings(4):
            self.assertTrue(not is_dense(pairs) or passes(pairs))
        for size in range(9):
            for goals in itertools.combinations(range(8), size):
                for start in range(9 - size):
                    pairs = (None,) * start + goals + (None,) * (8 - size - start)
                    self.same((is_dense(pairs), passes(pairs)), (True, True))


class Rounds(Case):
    def slow_rounds(self, pairs):
        found = []
        for one, goal in enumerate(pairs):
            if goal is not None:
                for row in found:
                    tried = row[:one] + (goal,) + row[one + 1:]
                    if slow_meetings(tried) == ():
                        found[found.index(row)] = tried
                        break
                else:
                    found.append((None,) * one + (goal,) + (None,) * (len(pairs) - one - 1))
        return tuple(found)

    def test_all_pairings_of_up_to_four_gates(self):
        for many in (0, 1, 2, 4):
            for pairs in all_pairings(many):
                self.same(self.both(rounds, pairs), self.slow_rounds(pairs))

    def test_pairings_of_eight_gates(self):
        for pairs in eight_gates(211) + eight_gates_some_free(211):
            found = self.both(rounds, pairs)
            self.same(found, self.slow_rounds(pairs))
            for gate, goal in enumerate(pairs):
                rest = [row[gate] for row in found if row[gate] is not None]
                self.same(rest, [] if goal is None else [goal])
            self.assertTrue(all(passes(row) for row in found))

    def test_put(self):
        self.same(self.both(put, (None, 2, None), 0, 1), (1, 2, None))
        self.same(self.both(put, (None,), 0, 0), (0,))


class Load(Case):
    def test_the_most_ways_through_one_place(self):
        self.same(load(()), 0)
        self.same(load((None, None, None)), 0)
        self.same(load((0,)), 0)
        self.same(load((0, 1, 2, 3)), 1)
        self.same(load((0, None, None, None, 1, None, None, None)), 2)
        for pairs in all_pairings(4) + eight_gates() + eight_gates_some_free():
            spots = [(stage, place) for gate, goal in enumerate(pairs) if goal is not None
                     for stage, place in enumerate(slow_way(len(pairs), gate, goal))]
            wanted = max([spots.count(spot) for spot in spots], default=0)
            self.same(self.both(load, pairs), wanted)
            self.same(wanted <= 1, passes(pairs))

    def test_other_numbers_of_gates(self):
        self.refused(BadSize, load, (0, 1, 2))
        self.refused(BadSize, load, [None, None, 0])
