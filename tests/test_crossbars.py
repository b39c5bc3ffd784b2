"""Points [1], [9], [14] and [30]: crossbars."""

import itertools
import random

from crossloom.crossbars import Crossbar, emptied, heads, run, single_queue
from crossloom.errors import BadGate, BadSize
from crossloom.frames import frame
from crossloom.matches import Turns, greatest
from tests.every import Case, all_pairings, full_pairings


def drawn_arrivals(many, slots, often, draws):
    """Return the cells of each slot, (gate in, gate out, cell), at most one of each gate in."""
    found = []
    for slot in range(slots):
        row = [(one, draws.randrange(many), f"{one} in {slot}") for one in range(many) if draws.random() < often]
        found.append(tuple(row))
    return tuple(found)


def slow_single(many, arrivals, slots):
    """Return (the match of each slot, how many went) where each gate in has one queue, made without the program."""
    queues = [[] for _ in range(many)]
    matches = []
    for slot in range(slots):
        for one, gate, _ in arrivals[slot] if slot < len(arrivals) else ():
            queues[one].append(gate)
        match = [None] * many
        for one, queue in enumerate(queues):
            if queue and queue[0] not in match[:one]:
                match[one] = queue[0]
        for one in range(many):
            queues[one] = queues[one][match[one] is not None:]
        matches.append(tuple(match))
    return matches, sum(many - match.count(None) for match in matches)


def by_turns(rounds):
    """Return a choice by turns."""
    pointers = {}
    return lambda bar, slot: pointers.setdefault(bar.many, Turns(bar.many)).match(bar.wants(), rounds)


def by_greatest(bar, slot):
    """Return a greatest match."""
    return greatest(bar.wants())


def filled_bar(lengths):
    """Return a bar with so many cells for each pair of gates."""
    bar = Crossbar(len(lengths))
    for one, row in enumerate(lengths):
        for gate, length in enumerate(row):
            for number in range(length):
                bar.put(one, gate, (one, gate, number))
    return bar


class Bars(Case):
    def test_fields(self):
        bar = Crossbar(2)
        self.same((bar.many, bar.queues, bar.slot, bar.came, bar.went), (2, [[[], []], [[], []]], 0, 0, 0))
        self.same((bar.wants(), bar.row_lengths(), bar.how_many(), heads(bar)), ([(), ()], ((0, 0), (0, 0)), 0,
                                                                               (None, None)))

    def test_cells_put_and_gates_that_are_not_there(self):
        bar = Crossbar(2)
        self.same(bar.put(1, 0, "a"), None)
        bar.put(1, 0, "b")
        bar.put(0, 1, None)
        for one, gate in ((-1, 0), (0, -1), (2, 0), (0, 2)):
            self.refused(BadGate, bar.put, one, gate, "c")
        self.same((bar.came, bar.went, bar.how_many()), (3, 0, 3))
        self.same(bar.row_lengths(), ((0, 1), (2, 0)))
        self.same(bar.wants(), [(1,), (0,)])
        self.same([[len(queue) for queue in row] for row in bar.queues], [[0, 1], [2, 0]])

    def test_a_slot_serves_the_first_cells_with_the_slots_they_waited(self):
        bar = Crossbar(2)
        bar.put(0, 1, "a")
        bar.put(0, 1, "b")
        bar.put(1, 1, "c")
        self.same(bar.serve((None, None)), ())
        bar.put(1, 0, "d")
        self.same(bar.serve([1, 0]), ((0, 1, "a", 1), (1, 0, "d", 0)))
        self.same(bar.serve((0, 1)), ((1, 1, "c", 2),))
        self.same(bar.serve((0, None)), ())
        self.same((bar.slot, bar.came, bar.went, bar.how_many()), (4, 4, 3, 1))
        self.same(heads(bar), ((0, 1, "b"), None))
        self.same(bar.serve((1, None)), ((0, 1, "b", 4),))
        self.same((bar.slot, bar.queues), (5, [[[], []], [[], []]]))

    def test_no_gates_and_one(self):
        none = Crossbar(0)
        self.same((none.serve(()), none.wants(), none.row_lengths(), heads(none), none.slot), ((), [], (), (), 1))
        self.refused(BadGate, none.put, 0, 0, "a")
        self.refused(BadSize, Crossbar(-1).wants)
        one = Crossbar(1)
        one.put(0, 0, "a")
        self.same((one.serve((0,)), one.serve((0,))), (((0, 0, "a", 0),), ()))

    def test_heads_tell_the_oldest_cells(self):
        bar = Crossbar(3)
        bar.put(2, 2, "a")
        bar.serve((None, None, None))
        for one, gate, cell in ((2, 0, "b"), (0, 1, "c"), (0, 0, "d"), (0, 0, "e")):
            bar.put(one, gate, cell)
        self.same(heads(bar), ((1, 0, "d"), None, (0, 2, "a")))
        bar.serve((0, None, 2))
        self.same(heads(bar), ((1, 0, "e"), None, (1, 0, "b")))

    def test_heads_of_cells_that_have_no_order(self):
        bar = Crossbar(2)
        bar.put(0, 1, {"a": 1})
        bar.put(0, 0, {"b": 2})
        self.same(heads(bar), ((0, 0, {"b": 2}), None))

    def test_slot_by_slot_by_the_words(self):
        draws = random.Random(15)
        for number in range(40):
            many = 1 + number % 4
            bar = Crossbar(many)
            queues = {}
            matches = all_pairings(many)
            came, went = 0, 0
            for slot in range(15):
                for one, gate, cell in drawn_arrivals(many, 1, 0.7, draws)[0]:
                    bar.put(one, gate, cell)
                    queues.setdefault((one, gate), []).append((cell, slot))
                    came += 1
                match = draws.choice(matches)
                wanted = []
                for one, gate in enumerate(match):
                    if queues.get((one, gate)):
                        cell, first = queues[(one, gate)].pop(0)
                        wanted.append((one, gate, cell, slot - first))
                went += len(wanted)
                self.same(self.both_kinds(bar, match), tuple(wanted))
                self.same((bar.slot, bar.came, bar.went, bar.how_many()), (slot + 1, came, went, came - went))

    def both_kinds(self, bar, match):
        rows = list(match) if bar.slot % 2 else match
        before = list(match)
        found = bar.serve(rows)
        self.assertEqual(list(rows), before)
        return found


class Runs(Case):
    def test_what_went_in_each_slot(self):
        arrivals = (((0, 1, "a"), (1, 1, "b")), (), ((0, 0, "c"),), ())
        told = []

        def choose(bar, slot):
            told.append((bar.slot, slot, bar.how_many()))
            return greatest(bar.wants())

        found = run(2, arrivals, choose)
        self.same(told, [(0, 0, 2), (1, 1, 1), (2, 2, 1), (3, 3, 0)])
        self.assertIsInstance(found, tuple)
        self.assertEqual([len(row) for row in found], [1, 1, 1, 0])
        self.assertEqual(sorted(row[0][:3] for row in found[:2]), [(0, 1, "a"), (1, 1, "b")])
        self.same(found[2][0][:3], (0, 0, "c"))
        self.same(run(2, (), by_greatest), ())
        self.same(run(0, ((), ()), by_greatest), ((), ()))
        self.refused(BadGate, run, 2, (((0, 2, "a"),),), by_greatest)

    def test_nothing_is_lost_and_each_pair_keeps_its_order(self):
        draws = random.Random(16)
        for number in range(30):
            many = 1 + number % 4
            arrivals = drawn_arrivals(many, 10, 0.6, draws) + ((),) * (10 * many)
            found = self.both(lambda rows: run(many, rows, by_greatest), arrivals)
            gone = [cell[:3] for row in found for cell in row]
            self.assertEqual(sorted(gone), sorted(cell for row in arrivals for cell in row))
            for pair in itertools.product(range(many), repeat=2):
                came = [cell for row in arrivals for cell in row if cell[:2] == pair]
                self.assertEqual([cell for cell in gone if cell[:2] == pair], came)
            for slot, row in enumerate(found):
                self.assertEqual(len({cell[0] for cell in row}), len(row))
                self.assertEqual(len({cell[1] for cell in row}), len(row))
                for one, gate, cell, waited in row:
                    self.assertIn((one, gate, cell), arrivals[slot - waited])


class Emptied(Case):
    def test_within_so_many_slots_and_not_within_fewer(self):
        draws = random.Random(17)
        for number in range(40):
            many = 1 + number % 4
            lengths = [[draws.randrange(3) for _ in range(many)] for _ in range(many)]
            most = max([sum(row) for row in lengths] + [sum(row) for row in zip(*lengths)])
            plan = frame(lengths, most)
            self.same(emptied(filled_bar(lengths), lambda bar, slot: plan[slot], most), most)
            if most > 0:
                bar = filled_bar(lengths)
                self.same(emptied(bar, lambda bar, slot: plan[slot], most - 1), None)
                self.same((bar.slot, bar.how_many() > 0), (most - 1, True))
                # No choice whatever is quicker: a gate has so many cells, and sends one a slot.
                self.same(emptied(filled_bar(lengths), by_greatest, most - 1), None)
            by_turn = emptied(filled_bar(lengths), by_turns(many), 99)
            self.assertTrue(most <= by_turn <= max(2 * most - 1, 0))

    def test_slots_from_nought_and_edges(self):
        told = []

        def choose(bar, slot):
            told.append(slot)
            return (None,) if slot < 2 else (0,)

        bar = filled_bar(((1,),))
        bar.serve((None,))
        self.same(emptied(bar, choose, 3), 3)
        self.same((told, bar.slot), ([0, 1, 2], 4))
        self.same(emptied(bar, choose, 0), 0)
        self.same(emptied(Crossbar(0), choose, 5), 0)
        self.same(emptied(filled_bar(((1,),)), choose, 0), None)
        self.same(told, [0, 1, 2])


class SingleQueues(Case):
    def test_the_first_may_hold_all_others_up(self):
        arrivals = (((0, 0, "a"), (1, 0, "b")), ((1, 1, "c"),), ())
        self.same([single_queue(2, arrivals, slots) for slots in range(5)], [0, 1, 2, 3, 3])
        # With a queue for each pair, gate in 1 sends its second cell while gate in 0 has gate out 0.
        arrivals = (((0, 0, "a"), (1, 0, "b")), ((0, 0, "c"), (1, 1, "d")), ())
        self.same([single_queue(2, arrivals, slots) for slots in range(6)], [0, 1, 2, 3, 4, 4])
        self.same(sum(len(row) for row in run(2, arrivals[:2], by_greatest)), 3)

    def test_no_cells_no_slots_no_gates(self):
        self.same([single_queue(2, (), 3), single_queue(2, (((0, 0, "a"),),), 0), single_queue(0, ((),), 2)], [0, 0, 0])
        self.same(single_queue(1, (((0, 0, "a"), (0, 0, "b")),), 1), 1)
        self.same(single_queue(1, (((0, 0, "a"), (0, 0, "b")),), 2), 2)

    def test_it_sends_never_more(self):
        draws = random.Random(18)
        alone, together = 0, 0
        for number in range(60):
            many = 2 + number % 3
            arrivals = drawn_arrivals(many, 12, 0.8, draws)
            for slots in (1, 5, 12, 15):
                matches, count = slow_single(many, arrivals, slots)
                self.same(self.both(lambda rows: single_queue(many, rows, slots), arrivals), count)
                # What one queue a gate sends, a queue for each pair sends too, by the same matches.
                rows = (arrivals + ((),) * 3)[:slots]
                found = run(many, rows, lambda bar, slot: matches[slot])
                self.same(sum(len(row) for row in found), count)
                alone += count
                together += sum(len(row) for row in run(many, rows, by_greatest))
        self.assertLess(alone * 20, together * 19)

    def test_against_all_that_could_be_sent(self):
        cells = [None, (0, 0), (0, 1), (1, 0), (1, 1)]
        fewer = 0
        for rows in itertools.product(itertools.combinations(cells, 2), repeat=3):
            arrivals = [[(*cell, "x") for cell in row if cell] for row in rows]
            for slots in (1, 2, 3):
                # A match of two gates is a part of a full one, which sends as much.
                best = max(self.sent(arrivals[:slots], choices)
                           for choices in itertools.product(full_pairings(2), repeat=slots))
                found = single_queue(2, arrivals, slots)
                self.assertLessEqual(found, best)
                fewer += found < best
        self.assertGreater(fewer, 100)

    def sent(self, arrivals, choices):
        return sum(len(row) for row in run(2, arrivals, lambda bar, slot: choices[slot]))
