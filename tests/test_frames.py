"""Points [1], [7] and [10]: frames."""

import itertools
import random

from crossloom.errors import BadRate
from crossloom.frames import (
    check_rates, frame, free_slots, has_rates, least_served, longest_wait, served, too_much, widened)
from tests.every import Case, as_lists, as_tuples
from tests.test_colours import slow_colour


def rows_of(counts, many):
    """Return rates of so many gates from their counts in one row."""
    return tuple(tuple(counts[one * many:one * many + many]) for one in range(many))


def all_rates(many, most):
    """Return all rates of so many gates, with up to so many slots for each pair."""
    return [rows_of(counts, many) for counts in itertools.product(range(most + 1), repeat=many * many)]


def drawn_rates(many, slots, draws):
    """Return rates that fill so many slots with drawn pairings, some pairs left out."""
    rates = [[0] * many for _ in range(many)]
    for _ in range(slots):
        goals = list(range(many))
        draws.shuffle(goals)
        for one, gate in enumerate(goals):
            rates[one][gate] += draws.random() < 0.8
    return tuple(tuple(int(rate) for rate in row) for row in rates)


def some_rates():
    """Return (rates, slots): all of two gates and small frames, and a good number of none to four gates."""
    draws = random.Random(10)
    found = [((), 0), ((), 3)] + [(((rate,),), slots) for rate in range(4) for slots in range(5)]
    found += [(rates, slots) for rates in all_rates(2, 3) for slots in range(5)]
    found += [(rates, 2) for rates in all_rates(3, 1)]
    for number in range(60):
        many = 3 + number % 2
        slots = 1 + number % 7
        found.append((drawn_rates(many, slots, draws), slots))
        found.append((rows_of([draws.randrange(3) for _ in range(many * many)], many), 4))
    return found


def slow_too_much(rates, slots):
    """Return the first gate with more than so many slots, gates in ahead, made without the program."""
    for gate, row in enumerate(rates):
        if sum(row) > slots:
            return ("in", gate)
    for gate in range(len(rates)):
        if sum(row[gate] for row in rates) > slots:
            return ("out", gate)
    return None


def slow_frame(rates, slots):
    """Return the pairing of each slot by point [7]'s words, made without the program."""
    calls = [(one, gate) for one, row in enumerate(rates) for gate, rate in enumerate(row) for _ in range(rate)]
    colours = [None] * len(calls)
    for number in range(len(calls)):
        colours, _ = slow_colour(calls, colours, number)
    plan = [[None] * len(rates) for _ in range(slots)]
    for (one, gate), slot in zip(calls, colours):
        plan[slot][one] = gate
    return tuple(tuple(row) for row in plan)


def slow_has_rates(plan, rates):
    """Tell whether a frame has its rates, made without the program."""
    many = len(rates)
    counts = [[[row[one] for row in plan].count(gate) for gate in range(many)] for one in range(many)]
    taken = [[gate for gate in row if gate is not None] for row in plan]
    return counts == as_lists(rates) and all(len(row) == len(set(row)) for row in taken)


def is_on(plan, one, gate, slot):
    """Tell whether a pair has a slot when frames go on and on."""
    return plan[slot % len(plan)][one] == gate


class Rates(Case):
    def test_refused_just_where_a_gate_has_too_much(self):
        refused = 0
        for rates, slots in some_rates():
            wanted = slow_too_much(rates, slots)
            self.same(self.both(too_much, rates, slots), wanted)
            if wanted is None:
                found = self.both(check_rates, rates, slots)
                # A list, as its mark tells, of rows that are tuples.
                self.same(found, list(as_tuples(rates)))
            else:
                refused += 1
                for call in (check_rates, frame):
                    self.refused(BadRate, call, rates, slots)
                    self.refused(BadRate, call, as_lists(rates), slots)
        self.assertGreater(refused, 100)

    def test_rows_that_are_no_rates(self):
        for rates in (((1, 0),), ((1,), (0, 1)), ((1, 0), (0,)), ((1, 0, 0), (0, 1, 0)), ((),), ((0, -1), (0, 0)),
                      ((0, 0), (0, 0), (0, 0)), ((-1,),)):
            for call in (check_rates, frame):
                self.refused(BadRate, call, rates, 9)
                self.refused(BadRate, call, as_lists(rates), 9)

    def test_too_much_tells_gates_in_ahead_of_gates_out(self):
        self.same(too_much(((0, 0), (2, 2)), 3), ("in", 1))
        self.same(too_much(((2, 0), (2, 2)), 3), ("in", 1))
        self.same(too_much(((2, 1), (2, 1)), 3), ("out", 0))
        self.same(too_much(((0, 2), (0, 2)), 3), ("out", 1))
        self.same(too_much(((0, 2), (0, 2)), 4), None)
        self.same(too_much(((1,),), 0), ("in", 0))
        self.same(too_much((), 0), None)

    def test_free_slots(self):
        self.same(self.both(free_slots, ((2, 0), (1, 1)), 3), (1, 1, 0, 2))
        self.same(self.both(free_slots, ((1, 2, 0), (0, 0, 0), (4, 0, 1)), 4), (1, 4, -1, -1, 2, 3))
        self.same(free_slots((), 5), ())
        self.same(free_slots(((0,),), 1), (1, 1))

    def test_widened(self):
        for rates in (((2, 0), (1, 1)), [[2, 0], [1, 1]], ([2, 0], (1, 1))):
            before = repr(rates)
            found = widened(rates, 1, 0, 3)
            self.same(found, [(2, 0), (4, 1)])
            self.same(widened(rates, 0, 1, 0), [(2, 0), (1, 1)])
            self.same(widened(found, 0, 1, 1), [(2, 1), (4, 1)])
            self.assertEqual(repr(rates), before)
        self.same(found, [(2, 0), (4, 1)])
        self.same(widened(((0,),), 0, 0, 1), [(1,)])


class Plans(Case):
    def test_a_frame_wherever_no_gate_has_too_much(self):
        for rates, slots in some_rates():
            if slow_too_much(rates, slots) is None:
                plan = self.both(frame, rates, slots)
                self.same(plan, slow_frame(rates, slots))
                self.assertEqual([len(row) for row in plan], [len(rates)] * slots)
                self.assertTrue(slow_has_rates(plan, rates))
                self.same(self.both(lambda rows: has_rates(rows[0], rows[1]), (plan, rates)), True)

    def test_frames_worked_by_hand(self):
        self.same(frame(((2, 0), (0, 1)), 3), ((0, 1), (0, None), (None, None)))
        # Gate in 1's call to gate out 0 makes the first calls change their slots.
        self.same(frame(((1, 1), (1, 0)), 2), ((1, 0), (0, None)))
        self.same(frame(((0, 0), (0, 0)), 1), ((None, None),))
        self.same(frame(((0, 0), (0, 0)), 0), ())
        self.same(frame([], 2), ((), ()))
        self.same(frame([[3]], 3), ((0,), (0,), (0,)))

    def test_twelve_gates_that_are_full(self):
        rates = [[5] * 12 for _ in range(12)]
        plan = frame(rates, 60)
        self.assertTrue(slow_has_rates(plan, rates))
        self.assertTrue(all(None not in row for row in plan))

    def test_has_rates_just_where_it_is_so(self):
        rows = list(itertools.product((None, 0, 1), repeat=2))
        for plan in itertools.product(rows, repeat=2):
            for rates in all_rates(2, 2):
                self.same(has_rates(plan, rates), slow_has_rates(plan, rates))
        self.same(has_rates((), ((0, 0), (0, 0))), True)
        self.same(has_rates([], ((0, 0), (1, 0))), False)
        self.same(has_rates((), ()), True)
        self.same(has_rates(((0, 1), (2, None)), ((1, 0), (0, 1))), False)


class Served(Case):
    def plans(self):
        """Return frames of one slot and more, with pairs that have no slot, one and several."""
        found = [((0,),), ((None,),), ((0,), (None,), (0,)), ((1, 0),), ((None, 0), (1, None), (1, 0), (None, None))]
        draws = random.Random(3)
        for slots in (2, 3, 5, 7):
            found.append(frame(drawn_rates(3, slots, draws), slots))
        return found

    def test_against_counting_slot_by_slot(self):
        for plan in self.plans():
            many = len(plan[0])
            for one, gate in itertools.product(range(many), repeat=2):
                for slots in range(3 * len(plan) + 2):
                    counts = [sum(is_on(plan, one, gate, start + slot) for slot in range(slots))
                              for start in range(2 * len(plan))]
                    for start, count in enumerate(counts):
                        self.same(self.both(served, plan, one, gate, start, slots), count)
                    self.same(self.both(least_served, plan, one, gate, slots), min(counts))

    def test_longest_wait_against_counting_slot_by_slot(self):
        for plan in self.plans():
            many = len(plan[0])
            for one, gate in itertools.product(range(many), repeat=2):
                waits = [next((wait for wait in range(1, len(plan) + 1) if is_on(plan, one, gate, start + wait - 1)),
                              None) for start in range(len(plan))]
                wanted = None if None in waits else max(waits)
                self.same(self.both(longest_wait, plan, one, gate), wanted)

    def test_worked_by_hand(self):
        plan = ((0, 1), (None, 0), (0, None), (1, 0), (1, None))
        self.same([longest_wait(plan, 0, 0), longest_wait(plan, 0, 1), longest_wait(plan, 1, 1)], [3, 4, 5])
        self.same(longest_wait(((0, None), (0, None)), 1, 1), None)
        self.same(served(plan, 0, 0, 2, 4), 2)
        self.same(served(plan, 0, 0, 3, 2), 0)
        self.same(served(plan, 0, 0, 12, 10), 4)
        self.same(least_served(plan, 0, 0, 2), 0)
        self.same(least_served(plan, 0, 0, 3), 1)

    def test_frames_of_no_slots(self):
        self.same(served((), 0, 0, 3, 5), 0)
        self.same(least_served((), 0, 0, 5), 0)
        self.same(longest_wait((), 0, 0), None)
