"""Points [1], [11], [27] and [30]: switches."""

import itertools
import random

from crossloom.crossbars import Crossbar
from crossloom.curves import most_queue
from crossloom.errors import BadGate, BadRate
from crossloom.frames import has_rates
from crossloom.switches import Stream, Switch
from tests.every import Case


class SlowBucket:
    """What point [27] lets a stream bring: in any slots on end its burst, and its rate for each frame of slots."""

    def __init__(self, burst, rate, slots):
        self.burst, self.rate, self.slots = burst, rate, slots
        self.taken = []

    def take(self, count):
        row = self.taken + [count]
        lengths = range(1, len(row) + 1)
        fits = all(self.slots * sum(row[-size:]) <= self.slots * self.burst + self.rate * size for size in lengths)
        self.taken.append(count if fits else 0)
        return fits


def drawn_switch(draws, most_gates=3, most_streams=4):
    """Return a switch with drawn streams, as many as fit."""
    switch = Switch(draws.randint(1, most_gates), draws.randint(1, 6))
    pairs = list(itertools.product(range(switch.many), repeat=2))
    draws.shuffle(pairs)
    for one, gate in pairs[:draws.randint(0, most_streams)]:
        try:
            switch.admit(one, gate, draws.randint(1, 4), draws.randint(1, switch.slots))
        except BadRate:
            pass
    return switch


def waiting_of(switch, number):
    """Return how many cells of a stream wait."""
    return switch.bar.row_lengths()[switch.streams[number].one][switch.streams[number].gate]


def greedy(switch, number, idle, slots):
    """Bring as much as a stream may from some slots on; return its longest queue and wait."""
    stream = switch.streams[number]
    queue = wait = brought = 0
    for slot in range(idle + slots):
        counts = [0] * len(switch.streams)
        if slot >= idle:
            counts[number] = stream.burst + stream.rate * (slot - idle + 1) // switch.slots - brought
        brought += counts[number]
        assert switch.offer(counts) == ()
        queue = max(queue, waiting_of(switch, number))
        for _, _, _, waited in switch.turn([]):
            wait = max(wait, waited)
    return queue, wait


class Fields(Case):
    def test_fields(self):
        switch = Switch(2, 3)
        self.same((switch.many, switch.slots, switch.streams, switch.buckets, switch.refused), (2, 3, [], [], 0))
        self.same(switch.plan, ((None, None),) * 3)
        self.assertIsInstance(switch.bar, Crossbar)
        self.same((switch.bar.many, switch.all_rates()), (2, [(0, 0), (0, 0)]))
        self.same([switch.admit(0, 1, 2, 3), switch.admit(1, 0, 5, 1)], [0, 1])
        self.same([(each.one, each.gate, each.burst, each.rate) for each in switch.streams], [(0, 1, 2, 3), (1, 0, 5, 1)])
        self.same((len(switch.buckets), switch.all_rates()), (2, [(0, 3), (1, 0)]))
        self.assertTrue(has_rates(switch.plan, switch.all_rates()))
        stream = Stream(3, 4, 5, 6)
        self.same((stream.one, stream.gate, stream.burst, stream.rate), (3, 4, 5, 6))

    def test_frames_without_slots(self):
        for slots in (0, -1):
            for many in (0, 1, 3):
                self.refused(BadRate, Switch, many, slots)

    def test_no_gates_and_no_streams(self):
        none = Switch(0, 2)
        self.same((none.plan, none.all_rates(), none.turn([]), none.offer(()), none.refused), (((), ()), [], (), (), 0))
        self.refused(BadGate, none.admit, 0, 0, 1, 1)
        switch = Switch(2, 1)
        self.same([switch.turn([]), switch.turn(()), switch.bar.slot], [(), (), 2])


class Admitted(Case):
    def test_refused(self):
        switch = Switch(2, 4)
        switch.admit(0, 1, 2, 3)
        for one, gate in ((-1, 0), (0, -1), (2, 0), (0, 2), (9, 9)):
            self.refused(BadGate, switch.admit, one, gate, 1, 1)
            self.refused(BadGate, switch.admit, one, gate, 0, 99)
        for told in ((0, 1, 1, 1), (0, 0, 0, 1), (0, 0, 1, 0), (0, 0, -1, 1), (0, 0, 1, -1), (0, 0, 1, 2), (1, 1, 1, 2),
                     (1, 0, 1, 5)):
            self.refused(BadRate, switch.admit, *told)
        self.same([switch.admit(0, 0, 1, 1), switch.admit(1, 1, 1, 1), switch.admit(1, 0, 1, 3)], [1, 2, 3])
        self.assertTrue(has_rates(switch.plan, [[1, 3], [3, 1]]))

    def test_ahead_of_all_slots(self):
        switch = Switch(2, 4)
        switch.offer([])
        switch.admit(0, 1, 1, 1)
        switch.turn([1])
        self.refused(BadRate, switch.admit, 1, 0, 1, 1)
        self.refused(BadGate, switch.admit, 2, 0, 1, 1)
        self.same(len(switch.streams), 1)

    def test_while_no_gate_has_more_than_a_frame_of_slots(self):
        draws = random.Random(111)
        for _ in range(60):
            switch = Switch(3, 4)
            rates = [[0] * 3 for _ in range(3)]
            for one, gate in draws.sample(list(itertools.product(range(3), repeat=2)), 9):
                rate = draws.randint(1, 3)
                rates[one][gate] += rate
                if sum(rates[one]) > 4 or sum(row[gate] for row in rates) > 4:
                    rates[one][gate] -= rate
                    self.refused(BadRate, switch.admit, one, gate, 1, rate)
                else:
                    switch.admit(one, gate, 1, rate)
                self.same(switch.all_rates(), [tuple(row) for row in rates])
                self.assertTrue(has_rates(switch.plan, rates))


class Offered(Case):
    def test_worked_by_hand(self):
        switch = Switch(2, 2)
        switch.admit(0, 1, 2, 1)
        switch.admit(1, 0, 1, 2)
        # In one slot two cells and half a one, or one and two halves.
        self.same([switch.offer([2, 3]), switch.refused, switch.bar.how_many()], [(1,), 3, 2])
        self.same(switch.bar.queues[0][1], [((0, 0, 0), 0), ((0, 0, 1), 0)])
        self.same(switch.bar.queues[1][0], [])
        self.same([switch.turn([0, 0]), switch.offer([0, 2]), switch.refused], [((0, 1, (0, 0, 0), 0),), (), 3])
        self.same(switch.bar.queues[1][0], [((1, 1, 0), 1), ((1, 1, 1), 1)])

    def test_all_or_nothing(self):
        switch = Switch(1, 2)
        switch.admit(0, 0, 3, 1)
        self.same([switch.offer([4]), switch.refused, switch.bar.how_many()], [(0,), 4, 0])
        self.same([switch.turn([3]), switch.refused], [((0, 0, (0, 0, 0), 0),), 4])
        # Two halves of a cell are left, and with the next slot's half there are three.
        self.same([switch.turn([2]), switch.refused], [(), 6])
        self.same([switch.turn([1]), switch.refused], [((0, 0, (0, 0, 1), 2),), 6])
        self.same([switch.turn([1]), switch.bar.how_many()], [(), 3])
        self.same([switch.turn([0]), switch.turn(()), switch.turn([0])],
                  [((0, 0, (0, 0, 2), 4),), (), ((0, 0, (0, 2, 0), 4),)])
        self.same([switch.turn([0]), switch.turn([0]), switch.bar.how_many()], [(), ((0, 0, (0, 3, 0), 5),), 0])

    def test_a_bucket_fills_once_a_slot(self):
        switch = Switch(1, 1)
        switch.admit(0, 0, 2, 1)
        # Three cells in the slot are what its burst and rate let by, whether offered at once or one by one.
        self.same([switch.offer([1]), switch.offer([1]), switch.offer([1]), switch.offer([1])], [(), (), (), (0,)])
        self.same([cell for cell, _ in switch.bar.queues[0][0]], [(0, 0, 0), (0, 0, 1), (0, 0, 2)])
        self.same([switch.turn([1]), switch.refused], [((0, 0, (0, 0, 0), 0),), 2])
        self.same([switch.turn([1]), switch.turn([1])], [((0, 0, (0, 0, 1), 1),), ((0, 0, (0, 0, 2), 2),)])

    def test_counts_as_tuples_and_as_lists(self):
        rows = [(2, 1), (0, 4), (1, 0)]
        told = []
        for kind in (list, tuple):
            switch = Switch(2, 3)
            switch.admit(0, 0, 2, 1)
            switch.admit(1, 0, 1, 2)
            counts = [kind(row) for row in rows]
            told.append([switch.turn(row) for row in counts] + [switch.refused])
            self.assertEqual(counts, [kind(row) for row in rows])
        self.same(told[0], told[1])


class Slots(Case):
    def test_the_frame_is_served_again_and_again(self):
        switch = Switch(2, 3)
        switch.admit(0, 0, 9, 1)
        switch.admit(0, 1, 9, 2)
        switch.admit(1, 0, 9, 2)
        switch.offer([9, 9, 9])
        for slot in range(9):
            wanted = {(one, gate) for one, gate in enumerate(switch.plan[slot % 3]) if gate is not None}
            self.same({row[:2] for row in switch.turn([0, 0, 0])}, wanted)

    def test_all_go_out_in_order_and_none_late_or_lost_whatever_comes(self):
        draws = random.Random(112)
        beyond = 0
        for number in range(120):
            switch = drawn_switch(draws)
            streams = list(enumerate(switch.streams))
            buckets = [SlowBucket(stream.burst, stream.rate, switch.slots) for _, stream in streams]
            bounds = [(switch.queue_bound(one), switch.wait_bound(one)) for one, _ in streams]
            kept = [[] for _ in streams]
            out = [[] for _ in streams]
            refused = 0
            for slot in range(60):
                counts = [draws.choice((0, 0, 0, 1, 1, 2, 3, 5)) if slot < 40 else 0 for _ in streams]
                took = [bucket.take(count) for bucket, count in zip(buckets, counts)]
                self.same(switch.offer(counts), tuple(one for one, fits in enumerate(took) if not fits))
                refused += sum(count for count, fits in zip(counts, took) if not fits)
                for one, fits in enumerate(took):
                    kept[one] += [(one, slot, place) for place in range(counts[one] if fits else 0)]
                    self.assertLessEqual(waiting_of(switch, one), bounds[one][0])
                self.note(switch, slot, switch.turn([0] * len(counts)), bounds, out)
            while switch.bar.how_many():
                slot += 1
                self.note(switch, slot, switch.turn([]), bounds, out)
            self.same((out, switch.refused), (kept, refused))
            self.same((switch.bar.came, switch.bar.went), (sum(map(len, kept)), sum(map(len, kept))))
            beyond += refused
        self.assertGreater(beyond, 500)

    def note(self, switch, slot, rows, bounds, out):
        """Hold what a slot tells against the streams and their bounds, and keep it."""
        self.assertEqual(len({gate for _, gate, _, _ in rows}), len(rows))
        for one, gate, cell, waited in rows:
            stream = switch.streams[cell[0]]
            self.same((one, gate, waited), (stream.one, stream.gate, slot - cell[1]))
            self.assertLessEqual(waited, bounds[cell[0]][1])
            out[cell[0]].append(cell)

    def test_streams_do_not_touch_each_other(self):
        draws = random.Random(113)
        for number in range(40):
            rows = [(0, 0, 2, 1), (0, 1, 3, 2), (1, 0, 1, 2), (1, 1, 4, 1)]
            one = number % 4
            counts = [[draws.randint(0, 3) for _ in rows] for _ in range(40)]
            told = []
            for others in (0, 1, 7):
                switch = Switch(2, 3)
                for row in rows:
                    switch.admit(*row)
                found = []
                for row in counts:
                    found += switch.turn([count if place == one else others * count for place, count in enumerate(row)])
                told.append([row for row in found if row[2][0] == one])
            self.assertEqual(told[0], told[1])
            self.assertEqual(told[0], told[2])


class Bounds(Case):
    def test_curves(self):
        switch = Switch(2, 4)
        switch.admit(0, 1, 3, 2)
        switch.admit(0, 0, 1, 1)
        self.same([switch.comes(0, 6), switch.comes(1, 6)], [(0, 3, 4, 4, 5, 5, 6), (0, 1, 1, 1, 2, 2, 2)])
        self.same([switch.comes(0, 0), switch.serves(0, 0)], [(0,), (0,)])

    def test_the_most_that_comes_and_the_least_that_is_served(self):
        draws = random.Random(114)
        for _ in range(60):
            switch = drawn_switch(draws)
            for number, stream in enumerate(switch.streams):
                slots = 3 * switch.slots + 1
                bucket = SlowBucket(stream.burst, stream.rate, switch.slots)
                most = [0]
                for _ in range(slots):
                    # As much as is taken at once, and nothing is taken where more is offered.
                    count = next(count for count in range(99, -1, -1) if SlowBucket.take(self.twin(bucket), count))
                    bucket.take(count)
                    most.append(most[-1] + count)
                self.same(switch.comes(number, slots), tuple(most))
                has = [row[stream.one] == stream.gate for row in switch.plan] * 9
                least = tuple(min(sum(has[start:start + size]) for start in range(switch.slots))
                              for size in range(slots + 1))
                self.same(switch.serves(number, slots), least)

    def twin(self, bucket):
        """Return a bucket that has taken the same."""
        found = SlowBucket(bucket.burst, bucket.rate, bucket.slots)
        found.taken = list(bucket.taken)
        return found

    def test_far_is_enough(self):
        draws = random.Random(115)
        for _ in range(60):
            switch = drawn_switch(draws)
            for number, stream in enumerate(switch.streams):
                far = switch.far(number)
                frames = next(count for count in range(99) if count * stream.rate >= stream.burst)
                self.same(far, (frames + 5) * switch.slots)
                # Farther off nothing more waits, and the bounds are told.
                late = 3 * far
                comes, serves = switch.comes(number, late), switch.serves(number, late)
                self.same(switch.queue_bound(number), most_queue(comes[1:], serves))
                waits = [next(size for size in range(late) if serves[size] >= comes[slots]) - slots
                         for slots in range(1, far)]
                self.same(switch.wait_bound(number), max(0, *waits))

    def test_they_are_the_most_that_ever_waits(self):
        # From some slot on, the stream that brings as much as it may comes to its bounds.
        draws = random.Random(116)
        for _ in range(25):
            sample = drawn_switch(draws, 2)
            rows = [(each.one, each.gate, each.burst, each.rate) for each in sample.streams]
            for number in range(len(rows)):
                queue = wait = 0
                for idle in range(sample.slots):
                    switch = Switch(sample.many, sample.slots)
                    for row in rows:
                        switch.admit(*row)
                    found = greedy(switch, number, idle, switch.far(number))
                    queue, wait = max(queue, found[0]), max(wait, found[1])
                self.same((sample.queue_bound(number), sample.wait_bound(number)), (queue, wait))

    def test_worked_by_hand(self):
        # Each slot is the stream's own: what comes at once goes one by one.
        switch = Switch(1, 1)
        switch.admit(0, 0, 3, 1)
        self.same((switch.queue_bound(0), switch.wait_bound(0)), (4, 3))
        # One slot of four: at worst the first of two cells waits for three slots, the second for four more.
        switch = Switch(1, 4)
        switch.admit(0, 0, 2, 1)
        self.same((switch.serves(0, 9), switch.comes(0, 9)), ((0, 0, 0, 0, 1, 1, 1, 1, 2, 2), (0, 2, 2, 2, 3, 3, 3, 3, 4, 4)))
        self.same((switch.queue_bound(0), switch.wait_bound(0)), (3, 8))
