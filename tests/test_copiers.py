"""Points [1] and [13]: copiers."""

import itertools

from crossloom.copiers import (
    carried, check_groups, copied, goals, intervals, nodes_used, split, sums)
from crossloom.errors import BadGate, BadSize
from tests.every import Case


def groups_of(owners):
    """Return the groups in which each gate out has its owner, a gate in or None, made without the program."""
    return tuple(tuple(gate for gate, owner in enumerate(owners) if owner == one) for one in range(len(owners)))


def all_owners(many):
    """Return each way in which gates out have gates in, or none."""
    return list(itertools.product((None,) + tuple(range(many)), repeat=many))


def some_of_eight():
    """Return owners of eight gates out: one gate for all, one each, none, and many between."""
    found = [(gate,) * 8 for gate in range(8)] + [tuple(range(8)), tuple(range(8))[::-1], (None,) * 8]
    for number in range(200):
        rest = number * 7919 + 12345
        row = []
        for gate in range(8):
            rest = rest * 31 % 10007
            row.append(None if rest % 9 == 8 else rest % (2 + number % 7))
        found.append(tuple(row))
    return found


OWNERS = all_owners(1) + all_owners(2) + all_owners(4) + some_of_eight()


class Groups(Case):
    def test_groups_in_order(self):
        self.same(self.both(check_groups, ((2, 0), (), (1,)), 3), [(0, 2), (), (1,)])
        self.same(self.both(check_groups, (), 0), [])
        self.same(check_groups([(3, 1, 0, 2), [], (), []], 4), [(0, 1, 2, 3), (), (), ()])

    def test_gates_not_there_or_twice(self):
        for groups, many in ((((0,),), 2), (((0,), (), ()), 2), ((), 1), (((0,), (2,)), 2), (((-1,), ()), 2),
                             (((0,), (0,)), 2), (((1, 1), ()), 2), (((0, 1), (1,)), 2), (((0, 1, 2), ()), 2)):
            for call in (check_groups, goals):
                self.refused(BadGate, call, groups, many)
                self.refused(BadGate, call, [list(row) for row in groups], many)

    def test_fabrics_refuse_gates_and_sizes(self):
        for call in (copied, carried, nodes_used):
            for groups in (((0,), (0,)), ((2,), ()), [[], [-1]], [[]], ((1, 1), ())):
                self.refused(BadGate, call, groups, 2)
            for many in (0, 3, 5, 6):
                self.refused(BadSize, call, [[] for _ in range(many)], many)
                self.refused(BadSize, call, [[many]] * many, many)

    def test_sums_and_intervals(self):
        self.same(self.both(sums, ((0, 3), (), (1,), ())), (0, 2, 2, 3))
        self.same(self.both(intervals, ((0, 3), (), (1,), ())), ((0, 1), None, (2, 2), None))
        self.same(sums(()), ())
        self.same(intervals(()), ())
        for owners in OWNERS:
            groups = groups_of(owners)
            counts = [len(row) for row in groups]
            wanted = tuple(sum(counts[:one]) for one in range(len(groups)))
            self.same(self.both(sums, groups), wanted)
            ends = [(low, low + count - 1) if count else None for low, count in zip(wanted, counts)]
            self.same(self.both(intervals, groups), tuple(ends))


class Splits(Case):
    def test_split(self):
        self.same(split(1, 4, 0, 3), ((0, 1, 3), (1, 4, 4)))
        self.same(split(1, 3, 0, 3), ((0, 1, 3),))
        self.same(split(1, 3, 1, 3), ((0, 1, 1), (1, 2, 3)))
        self.same(split(5, 6, 0, 3), ((1, 5, 6),))
        self.same(split(6, 7, 2, 3), ((0, 6, 6), (1, 7, 7)))
        self.same(split(0, 1, 0, 1), ((0, 0, 0), (1, 1, 1)))

    def test_all_intervals_whose_ends_part_no_earlier(self):
        for count in range(1, 5):
            for low, high in itertools.combinations_with_replacement(range(2 ** count), 2):
                for place in range(count):
                    if low >> (count - place) == high >> (count - place):
                        found = []
                        for figure in (0, 1):
                            part = [one for one in range(low, high + 1) if one >> (count - place - 1) & 1 == figure]
                            found += [(figure, part[0], part[-1])] if part else []
                        self.same(split(low, high, place, count), tuple(found))


class Copies(Case):
    def test_copies_one_behind_another_each_to_its_gate(self):
        self.same(self.both(copied, ((), (0, 3), (2,), ()), 4), (1, 1, 2, None))
        self.same(self.both(goals, ((), (0, 3), (2,), ()), 4), (0, 3, 2, None))
        self.same(self.both(carried, ((), (0, 3), (2,), ()), 4), (1, None, 2, 1))

    def test_all_groups_of_one_two_and_four_gates_and_some_of_eight(self):
        for owners in OWNERS:
            many = len(owners)
            groups = groups_of(owners)
            bare = (None,) * owners.count(None)
            copies = tuple(one for one, row in enumerate(groups) for _ in row) + bare
            self.same(self.both(copied, groups, many), copies)
            self.same(self.both(goals, groups, many), tuple(gate for row in groups for gate in row) + bare)
            self.same(self.both(carried, groups, many), owners)

    def test_groups_told_in_another_order(self):
        for owners in some_of_eight():
            groups = [row[::-1] for row in groups_of(owners)]
            self.same(carried(groups, 8), owners)
            self.same(goals(groups, 8), goals(groups_of(owners), 8))

    def test_goals_of_any_number_of_gates(self):
        self.same(goals((), 0), ())
        self.same(goals(((2,), (), (0, 1)), 3), (2, 0, 1))


class Nodes(Case):
    def test_nodes(self):
        self.same(self.both(nodes_used, ((0, 1, 2, 3), (), (), ()), 4), ((0, 0), (1, 0), (1, 2)))
        self.same(nodes_used(((0,), (1, 2), (), ()), 4), ((0, 0),))
        self.same(nodes_used(((0, 1), (2, 3, 4, 5), (), (), (), (), (), ()), 8), ((0, 0), (2, 0), (2, 2), (2, 4)))
        self.same(nodes_used(((), (), (), ()), 4), ())
        self.same(nodes_used(((0,),), 1), ())

    def test_all_groups(self):
        for owners in OWNERS:
            many = len(owners)
            groups = groups_of(owners)
            found = []
            for interval in intervals(groups):
                size = many
                while size > 1 and interval is not None:
                    # An interval is split where it has places in both halves of those ahead.
                    found += [(many.bit_length() - size.bit_length(), start) for start in range(0, many, size)
                              if interval[0] < start + size // 2 <= interval[1]]
                    size //= 2
            self.same(self.both(nodes_used, groups, many), tuple(sorted(found)))
            self.assertEqual(len(set(found)), len(found))
