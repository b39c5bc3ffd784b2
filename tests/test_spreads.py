"""Points [1], [25] and [30]: spreads."""

import itertools
import random

from crossloom.errors import BadGate
from crossloom.spreads import Spread, drained
from tests.every import Case, state


class SlowSpread:
    """A spread by point [25]'s words: of each cell, told as a row of facts, where it is."""

    def __init__(self, many):
        self.many = many
        self.slot = 0
        self.short = {}
        self.rows = {one: [] for one in range(many)}
        self.middle = {}

    def put(self, one, gate, cell):
        row = self.short.setdefault((one, gate), [])
        row.append(cell)
        if len(row) == self.many:
            self.rows[one] += [(gate, place, other) for place, other in enumerate(self.short.pop((one, gate)))]

    def turn(self):
        for one, row in self.rows.items():
            # The next cell of a row goes in the slot in which the gate is joined to that cell's place.
            if row and (one + self.slot - row[0][1]) % self.many == 0:
                gate, place, cell = row.pop(0)
                self.middle.setdefault((place, gate), []).append((one, gate, cell))
        found = []
        for (place, gate), queue in self.middle.items():
            if queue and (place + gate - self.slot) % self.many == 0:
                found.append(queue.pop(0))
        self.slot += 1
        return found

    def inside(self):
        return sum(len(row) for row in self.rows.values()) + sum(len(queue) for queue in self.middle.values())


def drawn_put(spread, draws, number, sent):
    """Put a drawn cell in, and keep in mind of which stream it is."""
    one, gate = draws.randrange(spread.many), draws.choice((0, draws.randrange(spread.many)))
    spread.put(one, gate, number)
    sent.setdefault((one, gate), []).append(number)
    return one, gate


class Fields(Case):
    def test_fields(self):
        spread = Spread(2)
        self.same((spread.many, spread.slot, spread.middle), (2, 0, [[[], []], [[], []]]))
        self.same((spread.left_inside(), spread.short(), spread.longest(1)), (0, 0, (0, 0)))
        spread.put(1, 0, "a")
        spread.put(1, 0, "b")
        spread.turn()
        spread.turn()
        # Gate in 1 is joined to place 0 in slot 1: its row begins there, and place 0 leads to gate 1 in that slot.
        self.same([len(spread.middle[place][gate]) for place, gate in itertools.product(range(2), repeat=2)], [1, 0, 0, 0])

    def test_gates_that_are_not_there(self):
        for many in range(4):
            spread = Spread(many)
            for one, gate in ((-1, 0), (0, -1), (many, 0), (0, many), (9, 9)):
                self.refused(BadGate, spread.put, one, gate, "cell")
        spread = Spread(2)
        spread.put(0, 1, "kept")
        self.refused(BadGate, spread.put, 0, 2, "cell")
        self.same((spread.short(), spread.left_inside()), (1, 0))


class Joins(Case):
    def test_they_are_pairings_in_each_slot(self):
        for many in range(1, 6):
            spread = Spread(many)
            for slot in range(2 * many + 1):
                self.same([spread.joined(one) for one in range(many)], [(one + slot) % many for one in range(many)])
                self.same([spread.out_of(place) for place in range(many)], [(slot - place) % many for place in range(many)])
                self.assertEqual(sorted(spread.joined(one) for one in range(many)), list(range(many)))
                self.assertEqual(sorted(spread.out_of(place) for place in range(many)), list(range(many)))
                spread.turn()


class Slots(Case):
    def test_no_gates_and_one_gate(self):
        none = Spread(0)
        self.same([none.turn(), none.left_inside(), none.short(), drained(none, 0), none.slot], [(), 0, 0, (), 1])
        self.same(none.longest(0), (0, 0))
        one = Spread(1)
        one.put(0, 0, "a")
        one.put(0, 0, "b")
        self.same([one.short(), one.left_inside(), one.turn(), one.turn(), one.turn()],
                  [0, 2, ((0, 0, "a"),), ((0, 0, "b"),), ()])

    def test_worked_by_hand(self):
        spread = Spread(2)
        self.same([spread.put(0, 0, "a"), spread.short(), spread.left_inside()], [None, 1, 0])
        self.same([spread.turn(), spread.turn()], [(), ()])
        # The row is full in slot 2, in which gate 0 is joined to place 0, and place 0 to gate 0.
        spread.put(0, 0, "b")
        self.same([spread.short(), spread.left_inside()], [0, 2])
        self.same([spread.turn(), spread.left_inside(), spread.turn(), spread.left_inside()],
                  [((0, 0, "a"),), 1, ((0, 0, "b"),), 0])
        # Gate 1 is joined to place 0 in slot 5 only; there place 0 leads to gate 1.
        spread.put(1, 0, "c")
        spread.put(1, 0, "d")
        self.same([spread.turn() for _ in range(4)], [(), (), ((1, 0, "c"),), ((1, 0, "d"),)])

    def test_streams_of_one_pair_go_row_by_row(self):
        for many in range(1, 5):
            spread = Spread(many)
            for cell in range(3 * many):
                spread.put(0, many - 1, cell)
            found = [row for _ in range(5 * many) for row in spread.turn()]
            self.same(found, [(0, many - 1, cell) for cell in range(3 * many)])

    def test_slot_by_slot_by_the_words(self):
        draws = random.Random(101)
        for number in range(120):
            many = number % 5 + 1
            spread, slow, sent = Spread(many), SlowSpread(many), {}
            for slot in range(60):
                for _ in range(draws.choice((0, 1, 1, 2, many)) if slot < 40 else 0):
                    cell = (slot, draws.random())
                    slow.put(*drawn_put(spread, draws, cell, sent), cell)
                self.same(spread.slot, slot)
                self.assertEqual(sorted(spread.turn()), sorted(slow.turn()))
                self.same((spread.left_inside(), spread.short()),
                          (slow.inside(), sum(len(row) for row in slow.short.values())))
                for place, gate in itertools.product(range(many), repeat=2):
                    self.assertEqual(len(spread.middle[place][gate]), len(slow.middle.get((place, gate), [])))
                for gate in range(many):
                    lengths = [len(slow.middle.get((place, gate), [])) for place in range(many)]
                    self.same(spread.longest(gate), (max(lengths), min(lengths)))

    def test_each_stream_goes_out_in_its_order_and_none_is_lost(self):
        draws = random.Random(102)
        for number in range(150):
            many = number % 3 + 1
            spread, sent, found, came = Spread(many), {}, [], 0
            for slot in range(draws.randint(0, 30)):
                for _ in range(draws.choice((0, 1, 2))):
                    drawn_put(spread, draws, came, sent)
                    came += 1
                rows = spread.turn()
                # One cell at most goes out at each gate.
                self.assertEqual(len({gate for _, gate, _ in rows}), len(rows))
                found += rows
                self.same(came, len(found) + spread.left_inside() + spread.short())
            found += drained(spread, 500)
            for pair, cells in sent.items():
                whole = len(cells) // many * many
                self.assertEqual([cell for one, gate, cell in found if (one, gate) == pair], cells[:whole])
            self.same(spread.short(), sum(len(cells) % many for cells in sent.values()))
            self.same(spread.left_inside(), 0)


class Drained(Case):
    def test_what_the_turns_told(self):
        spread, twin = Spread(3), Spread(3)
        for cell in range(12):
            for each in (spread, twin):
                each.put(cell % 2, 2, cell)
        wanted = []
        while twin.left_inside():
            wanted += twin.turn()
        self.same(drained(spread, 99), tuple(wanted))
        self.assertEqual(state(spread), state(twin))
        self.same(drained(spread, 0), ())

    def test_none_past_so_many_slots(self):
        for most in range(8):
            spread = Spread(2)
            for cell in range(4):
                spread.put(1, 1, cell)
            # The first row begins in slot 1, in which place 0 leads to gate 1: one cell goes out in each slot from then.
            found = drained(spread, most)
            self.same(found, tuple((1, 1, cell) for cell in range(4)) if most >= 5 else None)
            self.same(spread.slot, min(most, 5))
