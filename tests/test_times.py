"""Points [1], [8] and [24]: times."""

import itertools
import random

from crossloom.clos import Clos
from crossloom.errors import BadGate, BadSize, Blocked
from crossloom.times import Exchange, inner_needed, wait_of
from tests.every import Case, as_lists, state

SIZES = [(1, 1), (1, 3), (2, 1), (2, 2), (2, 3), (3, 2), (3, 3), (4, 2)]


def spots(exchange):
    """Return all (line, slot) of an exchange."""
    return list(itertools.product(range(exchange.lines), range(exchange.slots)))


def filled_by(exchange, draws, many=None):
    """Connect drawn free slots to each other, and return the calls, (line, slot, other line, its slot)."""
    ins, outs = spots(exchange), spots(exchange)
    draws.shuffle(ins)
    draws.shuffle(outs)
    calls = [one + other for one, other in list(zip(ins, outs))[:many]]
    for call in calls:
        exchange.connect(*call)
    return calls


def cells_of(exchange, draws):
    """Return a frame of named cells, None here and there."""
    return [[None if draws.random() < 0.2 else f"{line}.{slot}" for slot in range(exchange.slots)]
            for line in range(exchange.lines)]


class Fields(Case):
    def test_fields(self):
        exchange = Exchange(2, 3, 4)
        self.same((exchange.lines, exchange.slots, exchange.inner), (2, 3, 4))
        self.assertIsInstance(exchange.net, Clos)
        self.same((exchange.net.middle, exchange.net.gates, exchange.net.switches, exchange.net.calls), (4, 3, 2, {}))

    def test_refused(self):
        for told in itertools.product((-1, 0, 2), repeat=3):
            if min(told) < 1:
                self.refused(BadSize, Exchange, *told)

    def test_spots(self):
        exchange = Exchange(3, 4, 1)
        self.same([exchange.spot(line, slot) for line, slot in spots(exchange)], list(range(12)))
        for line, slot in ((-1, 0), (3, 0), (0, -1), (0, 4), (9, 9)):
            self.refused(BadGate, exchange.spot, line, slot)
            self.refused(BadGate, exchange.part, line, slot)
            self.refused(BadGate, exchange.connect, line, slot, 0, 0)
            self.refused(BadGate, exchange.connect, 0, 0, line, slot)


class Calls(Case):
    def test_worked_by_hand(self):
        exchange = Exchange(2, 2, 2)
        self.same([exchange.connect(0, 0, 1, 1), exchange.connect(1, 0, 1, 0)], [0, 0])
        self.same([exchange.reads(0), exchange.reads(1)], [(0, None), (None, 0)])
        self.same([exchange.joins(0), exchange.joins(1)], [(1, None), (None, 1)])
        self.same([exchange.writes(0), exchange.writes(1)], [(None, None), (1, 0)])
        self.same(exchange.frame((("a", "b"), ("c", None))), ((None, None), ("c", "a")))
        self.same([exchange.connect(0, 1, 0, 1), exchange.part(0, 0), exchange.joins(0)], [0, None, (None, None)])
        self.same(exchange.frame([["a", "b"], ["c", None]]), ((None, "b"), ("c", None)))

    def test_refused_calls_change_nothing(self):
        exchange = Exchange(2, 2, 1)
        exchange.connect(0, 0, 1, 1)
        for call in ((0, 0, 0, 0), (1, 0, 1, 1)):
            self.refused(BadGate, exchange.connect, *call)
        for call in ((0, 1, 0, 0), (1, 0, 1, 0)):
            self.refused(Blocked, exchange.connect, *call)
        self.refused(BadGate, exchange.part, 0, 1)
        self.same(exchange.net.shown(), ((0, 3, 0),))
        self.same([exchange.part(0, 0), exchange.connect(0, 1, 0, 0)], [None, 0])

    def test_one_line_of_one_slot(self):
        exchange = Exchange(1, 1, 1)
        self.same(exchange.frame((("a",),)), ((None,),))
        self.same([exchange.connect(0, 0, 0, 0), exchange.frame((("a",),)), exchange.frame([[None]])],
                  [0, (("a",),), ((None,),)])
        self.same([exchange.reads(0), exchange.joins(0), exchange.writes(0)], [(0,), (0,), (0,)])

    def test_with_as_many_inner_slots_as_slots_each_call_finds_one_others_moved(self):
        draws = random.Random(91)
        moved = 0
        for number in range(200):
            lines, slots = SIZES[number % len(SIZES)]
            exchange = Exchange(lines, slots, slots)
            calls = {}
            for _ in range(4 * lines * slots):
                one, other = draws.choice(spots(exchange)), draws.choice(spots(exchange))
                if one not in calls and other not in calls.values():
                    before = {gate: call[1] for gate, call in exchange.net.calls.items()}
                    found = exchange.connect(*one, *other)
                    now = exchange.net.calls
                    self.same(found, sum(now[gate][1] != number for gate, number in before.items()))
                    moved += found
                    calls[one] = other
                elif one in calls and draws.random() < 0.5:
                    exchange.part(*one)
                    del calls[one]
            self.assertTrue(exchange.net.is_sound())
            wanted = {exchange.spot(*one): exchange.spot(*other) for one, other in calls.items()}
            self.assertEqual({one: call[0] for one, call in exchange.net.calls.items()}, wanted)
        self.assertGreater(moved, 20)

    def test_with_fewer_inner_slots_some_calls_find_none(self):
        for slots in (2, 3, 4):
            exchange = Exchange(2, slots, slots - 1)
            for slot in range(slots - 1):
                exchange.connect(0, slot, 1, slot)
            self.refused(Blocked, exchange.connect, 0, slots - 1, 1, slots - 1)

    def test_inner_slots_that_are_needed(self):
        self.same([inner_needed(slots, True) for slots in range(1, 6)], [1, 2, 3, 4, 5])
        self.same([inner_needed(slots, False) for slots in range(1, 6)], [1, 3, 5, 7, 9])
        for slots in range(1, 6):
            # One fewer, and calls put in unmoved can leave none for one more.
            for fewer, blocks in ((0, False), (1, True)):
                if inner_needed(slots, False) > fewer:
                    net = Exchange(2, slots, inner_needed(slots, False) - fewer).net
                    for slot in range(slots - 1):
                        net.put_by(slot, slot, slot)
                        net.put_by(slots + slot, slots + slot, net.middle - 1 - slot)
                    if blocks and slots > 1:
                        self.refused(Blocked, net.put, slots - 1, 2 * slots - 1)
                    else:
                        self.same(net.put(slots - 1, 2 * slots - 1), slots - 1)


class Frames(Case):
    def test_cells_come_out_as_the_calls_say(self):
        draws = random.Random(92)
        for number in range(160):
            lines, slots = SIZES[number % len(SIZES)]
            exchange = Exchange(lines, slots, slots + number % 3)
            calls = filled_by(exchange, draws, draws.choice((None, None, 1, lines * slots // 2)))
            cells = cells_of(exchange, draws)
            found = self.both(exchange.frame, cells)
            wanted = [[None] * slots for _ in range(lines)]
            for line, slot, other, goal in calls:
                wanted[other][goal] = cells[line][slot]
            self.same(found, tuple(tuple(row) for row in wanted))

    def test_reads_joins_and_writes_fit_together(self):
        draws = random.Random(93)
        for number in range(160):
            lines, slots = SIZES[number % len(SIZES)]
            exchange = Exchange(lines, slots, slots + number % 2)
            filled_by(exchange, draws, draws.choice((None, 1, lines * slots // 2)))
            cells = cells_of(exchange, draws)
            made = [[None] * slots for _ in range(lines)]
            for inner in range(exchange.inner):
                joins = exchange.joins(inner)
                taken = [other for other in joins if other is not None]
                self.assertEqual(len(taken), len(set(taken)))
                for line, other in enumerate(joins):
                    read = exchange.reads(line)[inner]
                    self.assertEqual(read is None, other is None)
                    if other is not None:
                        made[other][exchange.writes(other)[inner]] = cells[line][read]
                for line in range(lines):
                    self.assertEqual(exchange.writes(line)[inner] is None, line not in joins)
            self.same(tuple(tuple(row) for row in made), exchange.frame(cells))
            for line in range(lines):
                self.assertEqual((len(exchange.reads(line)), len(exchange.writes(line))), (exchange.inner,) * 2)

    def test_frames_of_another_size(self):
        exchange = Exchange(2, 3, 3)
        exchange.connect(0, 0, 1, 1)
        before = state(exchange.net)
        for cells in ((), (("a",) * 3,), (("a",) * 3,) * 3, (("a",) * 3, ("b",) * 2), (("a",) * 4, ("b",) * 3)):
            self.refused(BadSize, exchange.frame, cells)
            self.refused(BadSize, exchange.frame, as_lists(cells))
        self.assertEqual(state(exchange.net), before)


class Waits(Case):
    def test_counted_slot_by_slot(self):
        for slots in range(1, 5):
            for slot, inner, goal in itertools.product(range(slots), repeat=3):
                now = slot
                while now % slots != inner:
                    now += 1
                while now % slots != goal:
                    now += 1
                self.same(wait_of(slot, inner, goal, slots), now - slot)

    def test_worked_by_hand(self):
        self.same([wait_of(0, 2, 3, 4), wait_of(2, 0, 3, 4), wait_of(3, 3, 3, 4), wait_of(1, 0, 1, 4)], [3, 5, 0, 4])
        self.same(wait_of(0, 0, 0, 1), 0)
        # Never two whole frames, for each part is within one.
        self.same(max(wait_of(*told, 4) for told in itertools.product(range(4), repeat=3)), 6)
