"""Points [1], [9] and [30]: matches."""

import itertools
import random

from crossloom.errors import BadSize
from crossloom.matches import (
    Turns, by_draws, check_wants, count, greatest, heaviest, is_match, is_maximal, lengthen, next_of, weight_of)
from tests.every import Case, all_pairings, as_lists


def all_wants(many, step=1):
    """Return all wants of so many gates, or every so manyth of them, those of none and of all too."""
    pairs = list(itertools.product(range(many), repeat=2))
    numbers = list(range(0, 2 ** len(pairs), step)) + [2 ** len(pairs) - 1]
    return [tuple(tuple(gate for gate in range(many) if number >> (one * many + gate) & 1) for one in range(many))
            for number in numbers]


def slow_is_match(wants, match):
    """Tell whether a match is one, made without the program."""
    taken = [gate for gate in match if gate is not None]
    return len(taken) == len(set(taken)) and all(gate is None or gate in wants[one] for one, gate in enumerate(match))


class SlowTurns:
    """Matches by turns by point [9]'s words, made without the program."""

    def __init__(self, many):
        self.many = many
        self.grants = [0] * many
        self.takes = [0] * many

    def round(self, wants, match, first):
        offers = []
        for gate in set(range(self.many)) - set(match):
            asking = [one for one in range(self.many) if match[one] is None and gate in wants[one]]
            if asking:
                offers.append((min(asking, key=lambda one: (one - self.grants[gate]) % self.many), gate))
        for one in {offer[0] for offer in offers}:
            mine = [gate for other, gate in offers if other == one]
            gate = min(mine, key=lambda gate: (gate - self.takes[one]) % self.many)
            match[one] = gate
            if first:
                self.grants[gate] = (one + 1) % self.many
                self.takes[one] = (gate + 1) % self.many


class Wants(Case):
    def test_rows_in_order(self):
        self.same(self.both(check_wants, ((2, 0), (), (1,)), 3), [(0, 2), (), (1,)])
        self.same(check_wants([], 0), [])
        self.same(check_wants(([1, 0], (0, 1)), 2), [(0, 1), (0, 1)])

    def test_gates_that_are_not_there(self):
        turns = Turns(2)
        for wants in (((0,), (2,)), ((-1,), ()), ((0, 1), (1, 2))):
            for rows in (wants, as_lists(wants)):
                self.refused(BadSize, check_wants, rows, 2)
                self.refused(BadSize, turns.match, rows, 1)
                self.refused(BadSize, by_draws, rows, (1, 2))
                self.refused(BadSize, greatest, rows)
        for wants in ((), ((0,),), ((0,), (), ())):
            self.refused(BadSize, check_wants, wants, 2)
            self.refused(BadSize, turns.match, wants, 1)
            self.refused(BadSize, turns.match, wants, 0)

    def test_is_match_and_is_maximal(self):
        for wants in all_wants(2) + all_wants(3, 5):
            many = len(wants)
            for match in all_pairings(many):
                self.same(self.both(lambda rows: is_match(rows[0], rows[1]), (wants, match)),
                          slow_is_match(wants, match))
                wanted = all(match[one] is not None or set(wants[one]) <= set(match) for one in range(many))
                self.same(self.both(lambda rows: is_maximal(rows[0], rows[1]), (wants, match)), wanted)
        self.same(is_match(((0,), (0,)), (0, 0)), False)
        self.same(is_match(((0,), (0,)), (0,)), False)
        self.same(is_match(((0,),), (0, None)), False)
        self.same([is_match((), ()), is_maximal((), ())], [True, True])

    def test_next_of(self):
        self.same([next_of((0, 2, 3), start, 5) for start in range(5)], [0, 2, 2, 3, 0])
        self.same([next_of([1], start, 3) for start in range(3)], [1, 1, 1])
        self.same(next_of((), 0, 3), None)

    def test_count(self):
        self.same([self.both(count, row) for row in ((), (None,), (0, None, 3), (1, 0))], [0, 0, 2, 2])


class ByTurns(Case):
    def test_fields(self):
        turns = Turns(3)
        self.same((turns.many, turns.grants, turns.takes), (3, [0, 0, 0], [0, 0, 0]))
        self.same((Turns(0).grants, Turns(0).takes), ([], []))

    def test_one_slot(self):
        turns = Turns(3)
        self.same(turns.match(((0, 1), (0,), (0, 2)), 1), (0, None, 2))
        self.same((turns.grants, turns.takes), ([1, 0, 0], [1, 0, 0]))

    def test_pointers_behind_two_slots_and_more(self):
        turns = Turns(2)
        both = ((0, 1), (0, 1))
        # At first both gates out grant to gate 0; behind that the pointers stand apart.
        self.same(turns.match(both, 1), (0, None))
        self.same((turns.grants, turns.takes), ([1, 0], [1, 0]))
        self.same(turns.match(both, 1), (1, 0))
        self.same((turns.grants, turns.takes), ([0, 1], [0, 1]))
        self.same([turns.match(both, 1) for _ in range(4)], [(0, 1), (1, 0), (0, 1), (1, 0)])

    def test_pointers_go_on_in_the_first_round_only(self):
        turns = Turns(2)
        self.same(turns.match(((0, 1), (0, 1)), 2), (0, 1))
        self.same((turns.grants, turns.takes), ([1, 0], [1, 0]))

    def test_a_round_by_itself(self):
        turns = Turns(3)
        match = [None, 2, None]
        self.same(turns.round(((2, 1), (2,), (1, 0)), match, False), None)
        self.same(match, [1, 2, 0])
        self.same((turns.grants, turns.takes), ([0, 0, 0], [0, 0, 0]))
        match = [None, None, None]
        self.same(turns.round([[2, 1], [], []], match, True), None)
        self.same(match, [1, None, None])
        self.same((turns.grants, turns.takes), ([0, 1, 0], [2, 0, 0]))

    def test_nothing_wanted_and_no_rounds(self):
        turns = Turns(2)
        self.same(turns.match(((), ()), 3), (None, None))
        self.same(turns.match(((0,), (1,)), 0), (None, None))
        self.same((turns.grants, turns.takes), ([0, 0], [0, 0]))
        self.same(Turns(0).match((), 2), ())

    def test_slot_behind_slot_by_the_words(self):
        draws = random.Random(5)
        for many in (1, 2, 3, 4, 8):
            turns = Turns(many)
            slow = SlowTurns(many)
            for _ in range(60):
                wants = [[gate for gate in range(many) if draws.random() < 0.6] for _ in range(many)]
                rounds = draws.randrange(4)
                wanted = [None] * many
                for number in range(rounds):
                    slow.round(wants, wanted, number == 0)
                before = as_lists(wants)
                self.same(turns.match(wants, rounds), tuple(wanted))
                self.assertEqual(wants, before)
                self.same((turns.grants, turns.takes), (slow.grants, slow.takes))
                self.assertTrue(slow_is_match(wants, wanted))

    def test_as_many_rounds_as_gates_leave_nothing(self):
        for wants in all_wants(3, 3):
            found = self.both(lambda rows: Turns(3).match(rows, 3), wants)
            self.assertTrue(is_match(wants, found) and is_maximal(wants, found))


class ByDraws(Case):
    def test_the_want_at_a_draws_rest(self):
        wants = ((0, 1), (0,), (1, 2))
        # Left at first: (0, 0), (0, 1), (1, 0), (2, 1), (2, 2).
        self.same(by_draws(wants, (1,)), (1, 0, 2))
        self.same(by_draws(wants, [8, 1]), (None, 0, 1))
        self.same(by_draws(wants, (4, 2)), (1, 0, 2))
        self.same(by_draws(wants, ()), (0, None, 1))
        self.same(by_draws((), (3,)), ())
        self.same(by_draws(((), ()), (3,)), (None, None))

    def test_all_wants_by_the_words(self):
        for number, wants in enumerate(all_wants(2) + all_wants(3)):
            draws = [(number * 7 + 3) % 11, number % 5, 2][:number % 4]
            left = [(one, gate) for one, row in enumerate(wants) for gate in row]
            wanted = [None] * len(wants)
            queue = list(draws)
            while left:
                one, gate = left[queue.pop(0) % len(left) if queue else 0]
                wanted[one] = gate
                left = [want for want in left if want[0] != one and want[1] != gate]
            found = self.both(lambda rows: by_draws(rows[0], rows[1]), (wants, draws))
            self.same(found, tuple(wanted))
            self.assertTrue(is_match(wants, found) and is_maximal(wants, found))


class Greatest(Case):
    def test_as_many_as_can_be(self):
        for many, step in ((0, 1), (1, 1), (2, 1), (3, 1), (4, 41)):
            matches = all_pairings(many)
            for wants in all_wants(many, step):
                found = self.both(greatest, wants)
                self.same(type(found), tuple)
                self.assertTrue(slow_is_match(wants, found) and len(found) == many)
                most = max(many - match.count(None) for match in matches if slow_is_match(wants, match))
                self.same(count(found), most)

    def test_others_moved(self):
        self.same(greatest(((0, 1), (0,))), (1, 0))
        self.same(greatest(((0, 1), (0, 2), (0,))), (1, 2, 0))
        self.same(count(greatest([(gate, gate + 1) for gate in range(7)] + [(0,)])), 8)

    def test_lengthen(self):
        owner = [0, None]
        self.same(lengthen(((0, 1), (0,)), owner, 1, {}), True)
        self.same(owner, [1, 0])
        self.same(lengthen(((0, 1), (0,), (0,)), owner, 2, {}), False)
        self.same(owner, [1, 0])


class Heaviest(Case):
    def slow_heaviest(self, weights):
        many = len(weights)
        best = (None, None)
        for match in all_pairings(many):
            weight = sum(weights[one][gate] for one, gate in enumerate(match) if gate is not None)
            if best[0] is None or weight > best[0]:
                best = (weight, match)
        return best[1]

    def test_held_against_all_matches(self):
        draws = random.Random(11)
        for many in range(5):
            for number in range(40):
                top = (1, 2, 9)[number % 3]
                weights = [[draws.randint(-1, top) for _ in range(many)] for _ in range(many)]
                found = self.both(heaviest, weights)
                self.same(found, self.slow_heaviest(weights))
                wanted = sum(weights[one][gate] for one, gate in enumerate(found) if gate is not None)
                self.same(self.both(lambda rows: weight_of(rows[0], rows[1]), (weights, found)), wanted)

    def test_the_first_by_gates_nothing_first(self):
        self.same(heaviest(((0, 0), (0, 0))), (None, None))
        self.same(heaviest(((1, 1), (1, 1))), (0, 1))
        self.same(heaviest(((0, 2), (0, 2))), (None, 1))
        self.same(heaviest(((3, 2), (2, 0))), (1, 0))
        self.same(heaviest(((-1,),)), (None,))
        self.same(heaviest(()), ())

    def test_five_gates_and_more(self):
        ones = [[10 * (one == (gate + 2) % 5) + 1 for gate in range(5)] for one in range(5)]
        self.same(heaviest(ones), (3, 4, 0, 1, 2))
        self.refused(BadSize, heaviest, [[1] * 6 for _ in range(6)])
        self.refused(BadSize, heaviest, ((0,) * 7,) * 7)

    def test_weight_of(self):
        self.same(weight_of(((1, 2), (3, 4)), (1, 0)), 5)
        self.same(weight_of(((1, 2), (3, 4)), [None, 1]), 4)
        self.same(weight_of((), ()), 0)
