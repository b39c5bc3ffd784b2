"""Points [1], [15] and [30]: the ideal switch and the mimic."""

import itertools
import random

from crossloom.errors import BadGate
from crossloom.mimics import Ideal, Mimic, ideal_run, mimic_run
from tests.every import Case, as_lists, state


def rows_of_slots(goals):
    """Return the cells of each slot, (gate in, gate out, cell), by the gates out for each gate in, None for no cell."""
    return tuple(tuple((one, gate, f"{one} in {slot}") for one, gate in enumerate(row) if gate is not None)
                 for slot, row in enumerate(goals))


def all_arrivals(many, slots):
    """Return all cells of so many slots, at most one a slot at each gate in."""
    rows = list(itertools.product([None] + list(range(many)), repeat=many))
    return [rows_of_slots(goals) for goals in itertools.product(rows, repeat=slots)]


def drawn_arrivals(many, slots, draws):
    """Return cells of drawn slots, most of them for the first gates out."""
    often = draws.choice((0.4, 0.8, 1))
    few = draws.randint(1, many)
    return rows_of_slots([[draws.randrange(draws.choice((few, many))) if draws.random() < often else None
                           for _ in range(many)] for _ in range(slots)])


def slow_ideal(many, arrivals, slots):
    """Return what the ideal switch sends, with a queue for each gate out, and made without the program."""
    queues = [[] for _ in range(many)]
    found = []
    for slot in range(slots):
        for _, gate, cell in arrivals[slot] if slot < len(arrivals) else ():
            queues[gate].append(cell)
        found.append(tuple((gate, queue.pop(0)) for gate, queue in enumerate(queues) if queue))
    return tuple(found)


class SlowMimic:
    """The mimic by point [15]'s words: a cell is (cell, gate out, slot to leave)."""

    def __init__(self, many):
        self.many = many
        self.free = [0] * many
        self.lists = [[] for _ in range(many)]
        self.crossed = [[] for _ in range(many)]
        self.slot = 0

    def put(self, one, gate, cell):
        leaves = max(self.slot, self.free[gate])
        self.free[gate] = leaves + 1
        ahead = sum(slot < leaves for _, slot in self.crossed[gate])
        self.lists[one] = self.lists[one][:ahead] + [(cell, gate, leaves)] + self.lists[one][ahead:]

    def matched(self):
        """Let all gates out that nobody holds ask at once, again and again."""
        waiting = [sorted((row[2], one, row) for one in range(self.many) for row in self.lists[one] if row[1] == gate)
                   for gate in range(self.many)]
        held = {}
        while True:
            asks = [(one, row) for gate, rows in enumerate(waiting) for _, one, row in rows[:1]
                    if held.get(one, (None, None))[1] != gate]
            if not asks:
                return held
            for one, row in asks:
                other = held.get(one)
                if other is None or self.lists[one].index(row) < self.lists[one].index(other[0]):
                    held[one] = (row, row[1])
                    row = other and other[0]
                if row is not None:
                    waiting[row[1]].pop(0)

    def cross(self):
        found = []
        for one, (row, gate) in self.matched().items():
            self.lists[one].remove(row)
            self.crossed[gate].append((row[0], row[2]))
            found.append((one, gate, row[0]))
        return sorted(found)

    def send(self):
        found = []
        for gate in range(self.many):
            found += [(gate, cell) for cell, slot in self.crossed[gate] if slot == self.slot]
            found += [(gate, None) for row in self.lists for _, goal, slot in row if (goal, slot) == (gate, self.slot)]
            self.crossed[gate] = [row for row in self.crossed[gate] if row[1] != self.slot]
        self.slot += 1
        return tuple(found)


class TheIdeal(Case):
    def test_the_first_slot_in_which_the_gate_is_free(self):
        ideal = Ideal(2)
        self.same(ideal.free, [0, 0])
        self.same([ideal.leaving(1, 0), ideal.leaving(1, 0), ideal.leaving(0, 1), ideal.leaving(1, 1)], [0, 1, 1, 2])
        self.same(ideal.free, [2, 3])
        self.same([ideal.leaving(1, 7), ideal.leaving(1, 7), ideal.leaving(0, 2)], [7, 8, 2])
        self.same(ideal.free, [3, 9])
        self.same(Ideal(0).free, [])

    def test_slot_by_slot(self):
        draws = random.Random(20)
        for arrivals in all_arrivals(2, 2) + [drawn_arrivals(3, 6, draws) for _ in range(50)]:
            for slots in (0, 1, 3, 9, 20):
                found = self.both(lambda rows: ideal_run(3, rows, slots), arrivals)
                self.same(found, slow_ideal(3, arrivals, slots))

    def test_no_cells_no_slots_no_gates(self):
        for call in (ideal_run, lambda many, rows, slots: mimic_run(many, rows, slots, 2)):
            self.same(call(2, (), 2), ((), ()))
            self.same(call(0, ((), ()), 2), ((), ()))
            self.same(call(2, (((0, 1, "a"),),), 0), ())
            self.same(call(1, (((0, 0, "a"),), ((0, 0, "b"),)), 3), (((0, "a"),), ((0, "b"),), ()))


class TheMimic(Case):
    def test_fields(self):
        mimic = Mimic(2)
        self.same((mimic.many, mimic.lists, mimic.crossed, mimic.slot), (2, [[], []], [[], []], 0))
        self.assertIsInstance(mimic.ideal, Ideal)
        self.same(mimic.ideal.free, [0, 0])
        none = Mimic(0)
        self.same((none.matched(), none.cross(), none.send(), none.turn((), 2), none.slot), ((), (), (), (), 2))

    def test_lists_behind_each_step(self):
        mimic = Mimic(2)
        self.same([mimic.put(0, 0, "a"), mimic.put(0, 0, "b"), mimic.put(1, 0, "c"), mimic.put(0, 1, "d")], [None] * 4)
        # Nothing has crossed yet: each new cell stands first.
        self.same(mimic.lists, [[("d", 1, 0), ("b", 0, 1), ("a", 0, 0)], [("c", 0, 2)]])
        self.same(mimic.wanted(0), [(0, 0, "a"), (1, 0, "b"), (2, 1, "c")])
        self.same(mimic.wanted(1), [(0, 0, "d")])
        self.same([mimic.place(0, "d"), mimic.place(0, "a"), mimic.place(1, "c")], [0, 2, 0])
        self.same([mimic.slack(0, place) for place in range(3)] + [mimic.slack(1, 0)], [0, -1, -2, 0])
        # Gate out 0 asks for "a", then for "b", but gate in 0 keeps "d"; gate in 1 has "c" for it.
        self.same(mimic.matched(), ((1, "c"), (0, "d")))
        self.same(mimic.cross(), ((1, 0, "c"), (0, 1, "d")))
        self.same((mimic.lists, mimic.crossed), ([[("b", 0, 1), ("a", 0, 0)], []], [[("c", 2)], [("d", 0)]]))
        self.same(mimic.matched(), ((0, "a"), None))
        self.same(mimic.cross(), ((0, 0, "a"),))
        self.same(mimic.send(), ((0, "a"), (1, "d")))
        self.same((mimic.lists, mimic.crossed, mimic.slot), ([[("b", 0, 1)], []], [[("c", 2)], []], 1))
        # "e" leaves in slot 3, behind "c", which has crossed.
        self.same(mimic.turn(((0, 0, "e"),), 0), ((0, None),))
        self.same(mimic.lists, [[("b", 0, 1), ("e", 0, 3)], []])
        self.same(mimic.slack(0, 1), 0)

    def test_a_gate_in_keeps_the_one_that_stands_first(self):
        mimic = Mimic(3)
        for one, gate, cell in ((0, 0, "a"), (0, 1, "b"), (1, 1, "c"), (2, 0, "d"), (1, 0, "e")):
            mimic.put(one, gate, cell)
        self.same([[row[0] for row in rows] for rows in mimic.lists], [["b", "a"], ["e", "c"], ["d"]])
        # Gate in 0 keeps "b" for gate out 1; gate out 0 asks on, at gate in 2.
        self.same(mimic.matched(), ((2, "d"), (0, "b"), None))

    def test_a_late_cell_is_told_and_never_sent(self):
        mimic = Mimic(2)
        found = mimic.turn(((0, 0, "a"), (0, 1, "b")), 1)
        # The later one stands first, and only one crosses.
        self.same(found, ((0, None), (1, "b")))
        self.same(mimic.turn((), 1), ())
        self.same(mimic.crossed, [[("a", 0)], []])
        self.same(mimic.turn((), 1), ())

    def test_cells_of_one_name(self):
        arrivals = tuple(tuple((one, gate, "x") for one, gate, _ in row) for row in all_arrivals(2, 3)[-1])
        self.same(mimic_run(2, arrivals, 8, 2), ideal_run(2, arrivals, 8))

    def test_gates_that_are_not_there(self):
        mimic = Mimic(2)
        mimic.put(0, 1, "a")
        mimic.cross()
        mimic.put(1, 1, "b")
        before = [state(mimic), state(mimic.ideal)]
        for one, gate in ((2, 0), (0, 2), (-1, 0), (0, -1)):
            for call, told in ((mimic.put, (one, gate, "c")), (mimic.turn, (((0, 0, "d"), (one, gate, "c")), 2)),
                               (mimic.turn, ([[1, 0, "d"], [one, gate, "c"]], 0))):
                with self.assertRaises(BadGate):
                    call(*told)
                self.assertEqual([vars(mimic)[name] for name in ("lists", "crossed", "slot")],
                                 [before[0][name] for name in ("lists", "crossed", "slot")])
                self.assertEqual(vars(mimic.ideal), before[1])
            self.refused(BadGate, mimic_run, 2, (((one, gate, "c"),),), 3, 2)

    def test_slot_by_slot_by_the_words(self):
        draws = random.Random(21)
        late = 0
        for number in range(60):
            many = 1 + number % 4
            mimic, slow = Mimic(many), SlowMimic(many)
            for row in drawn_arrivals(many, 9, draws):
                for one, gate, cell in row:
                    mimic.put(one, gate, cell)
                    slow.put(one, gate, cell)
                    self.same(mimic.lists, slow.lists)
                for gate in range(many):
                    rows = sorted((slot, one, cell) for one in range(many) for cell, goal, slot in slow.lists[one]
                                  if goal == gate)
                    self.same(mimic.wanted(gate), rows)
                for _ in range(draws.randrange(4)):
                    wanted = {row[1]: (one, row[0][0]) for one, row in slow.matched().items()}
                    self.same(mimic.matched(), tuple(wanted.get(gate) for gate in range(many)))
                    found = mimic.cross()
                    self.assertEqual(sorted(found), slow.cross())
                    self.assertEqual(list(found), sorted(found, key=lambda cell: cell[1]))
                    self.same(mimic.lists, slow.lists)
                    self.assertEqual([sorted(row) for row in mimic.crossed], [sorted(row) for row in slow.crossed])
                self.slacks(mimic)
                found = mimic.send()
                late += None in [cell for _, cell in found]
                self.same(found, slow.send())
        self.assertGreater(late, 10)

    def slacks(self, mimic):
        for one, row in enumerate(mimic.lists):
            for place, (cell, gate, leaves) in enumerate(row):
                self.same(mimic.place(one, cell), place)
                ahead = sum(slot < leaves for _, slot in mimic.crossed[gate])
                self.same(mimic.slack(one, place), ahead - place)


class AsTheIdeal(Case):
    def test_crossing_twice_a_slot_it_sends_what_the_ideal_switch_does(self):
        rows = all_arrivals(1, 4) + all_arrivals(2, 3) + all_arrivals(3, 2)[::3]
        unlike = 0
        for arrivals in rows:
            many = 5 - len(arrivals)
            wanted = ideal_run(many, arrivals, 9)
            self.same(mimic_run(many, arrivals, 9, 2), wanted)
            unlike += mimic_run(many, arrivals, 9, 1) != wanted
        self.assertGreater(unlike, 100)

    def test_many_slots(self):
        draws = random.Random(22)
        unlike = 0
        for number in range(80):
            many = 2 + number % 4
            arrivals = drawn_arrivals(many, 15, draws)
            wanted = ideal_run(many, arrivals, 80)
            self.same(self.both(lambda rows: mimic_run(many, rows, 80, 2), arrivals), wanted)
            self.same(sum(len(row) for row in wanted), sum(len(row) for row in arrivals))
            unlike += mimic_run(many, arrivals, 80, 1) != wanted
        self.assertGreater(unlike, 40)

    def test_no_cell_has_less_than_no_slack_when_a_slot_begins(self):
        draws = random.Random(23)
        for number in range(30):
            mimic = Mimic(2 + number % 3)
            for row in drawn_arrivals(mimic.many, 12, draws):
                mimic.turn(as_lists(row), 2)
                for one, waiting in enumerate(mimic.lists):
                    for place in range(len(waiting)):
                        self.assertGreaterEqual(mimic.slack(one, place), 1)

    def test_crossing_once_it_needs_not(self):
        arrivals = (((0, 0, "a"), (1, 0, "b")), ((0, 0, "c"), (1, 1, "d")), ((1, 0, "e"),))
        self.same(ideal_run(2, arrivals, 4), (((0, "a"),), ((0, "b"), (1, "d")), ((0, "c"),), ((0, "e"),)))
        self.same(mimic_run(2, arrivals, 4, 2), ideal_run(2, arrivals, 4))
        self.same(mimic_run(2, arrivals, 4, 1), (((0, "a"),), ((0, None), (1, "d")), ((0, "c"),), ((0, "e"),)))
