"""Point [1]: the main promise, through nets, calls, frames, buckets, crossbars and switches together."""

import itertools
import random

from crossloom.benes import net_of, settings_for
from crossloom.buckets import keeps, taken
from crossloom.clos import Clos, blocking_row, can_carry, carried_net, never_blocks, short_row
from crossloom.crossbars import Crossbar, emptied
from crossloom.curves import bucket_curve, most_queue, most_wait
from crossloom.desks import Desk, done_again, told_block
from crossloom.errors import BadRate, Blocked
from crossloom.frames import check_rates, frame, has_rates, longest_wait
from crossloom.switches import Switch
from tests.every import Case, all_pairings, eight_gates_some_free, full_pairings


def drawn_switch(draws):
    """Return a switch of four gates with drawn streams, as many as fit."""
    switch = Switch(4, draws.randint(1, 5))
    pairs = list(itertools.product(range(4), repeat=2))
    draws.shuffle(pairs)
    for one, gate in pairs:
        try:
            switch.admit(one, gate, draws.randint(1, 3), draws.randint(1, switch.slots))
        except BadRate:
            pass
    return switch


class Promise(Case):
    def test_cells_within_the_told_rates(self):
        draws = random.Random(131)
        for _ in range(25):
            switch = drawn_switch(draws)
            self.assertTrue(has_rates(switch.plan, check_rates(switch.all_rates(), switch.slots)))
            streams = switch.streams
            arrivals = [[draws.choice((0, 0, 0, 0, 1, 1, 2)) for _ in streams] for _ in range(50)]
            fits = [self.taken_of(switch, number, [row[number] for row in arrivals]) for number in range(len(streams))]
            bounds = [(switch.queue_bound(number), switch.wait_bound(number)) for number in range(len(streams))]
            out = [[] for _ in streams]
            for slot in range(50 + max([switch.far(number) for number in range(len(streams))])):
                counts = arrivals[slot] if slot < 50 else []
                refused = switch.offer(counts)
                self.same(refused, tuple(number for number in range(len(counts)) if not fits[number][slot]))
                self.no_longer_than_told(switch, bounds)
                self.served(switch, slot, bounds, out)
            # None is lost, and each stream's cells went out in their order.
            self.same(switch.bar.how_many(), 0)
            for number, row in enumerate(fits):
                self.same(out[number], [(number, slot, place) for slot in range(50) if row[slot]
                                        for place in range(arrivals[slot][number])])

    def taken_of(self, switch, number, counts):
        """Return in which slots what comes of a stream is within its burst and rate, all or nothing."""
        stream = switch.streams[number]
        marks = [count * switch.slots for count in counts]
        found = taken(marks, stream.burst * switch.slots, stream.rate)
        kept = [count if fits else 0 for count, fits in zip(marks, found)]
        self.assertTrue(keeps(kept, stream.burst * switch.slots, stream.rate))
        return found

    def no_longer_than_told(self, switch, bounds):
        """Hold each stream's queue against its bound, behind a slot's coming in."""
        lengths = switch.bar.row_lengths()
        for stream, (queue, _) in zip(switch.streams, bounds):
            self.assertLessEqual(lengths[stream.one][stream.gate], queue)

    def served(self, switch, slot, bounds, out):
        """Do the rest of a slot, its pairing carried by the nets that carry all, and hold it against the bounds."""
        pairs = switch.plan[slot % switch.slots]
        carried = net_of(4).carried(settings_for(pairs))
        rows = carried_net(pairs, 2, 2)
        self.assertTrue(rows.is_sound())
        for one, gate, cell, waited in switch.turn([]):
            stream = switch.streams[cell[0]]
            self.same((one, gate, carried[one], rows.calls[one][0]), (stream.one, stream.gate, gate, gate))
            self.same(waited, slot - cell[1])
            self.assertLessEqual(waited, bounds[cell[0]][1])
            out[cell[0]].append(cell)

    def test_a_crossbar_served_by_a_frame(self):
        draws = random.Random(132)
        for _ in range(40):
            rates = [[0] * 3 for _ in range(3)]
            for _ in range(draws.randint(1, 4)):
                for one, gate in enumerate(draws.sample(range(3), 3)):
                    rates[one][gate] += 1
            slots = sum(rates[0])
            plan, bar = frame(rates, slots), Crossbar(3)
            for one, gate in itertools.product(range(3), repeat=2):
                for cell in range(rates[one][gate]):
                    bar.put(one, gate, (one, gate, cell))
            # Of each pair as many cells as its rate are served within a frame, and none later.
            self.same(emptied(bar, lambda _, slot: plan[slot], slots), slots)
            self.assertTrue(all(longest_wait(plan, one, gate) is None or longest_wait(plan, one, gate) <= slots
                                for one, gate in itertools.product(range(3), repeat=2)))

    def test_bounds_are_those_of_the_curves(self):
        switch = Switch(1, 1)
        switch.admit(0, 0, 4, 1)
        comes, serves = bucket_curve(4, 1, 9), tuple(range(10))
        self.same((switch.comes(0, 9), switch.serves(0, 9)), (comes, serves))
        self.same((switch.queue_bound(0), switch.wait_bound(0)), (5, most_wait(comes[:5], serves)))
        self.same(most_queue(comes, serves), 4)


class Nets(Case):
    def test_any_pairing_is_carried_in_one_pass_by_the_nets_that_carry_all(self):
        for many, rows in ((2, all_pairings(2)), (4, all_pairings(4)), (8, eight_gates_some_free(997))):
            net = net_of(many)
            for pairs in rows:
                made = net.carried(settings_for(pairs))
                self.assertTrue(all(gate is None or gate == led_to for gate, led_to in zip(pairs, made)))
                for gates in (1, 2, many // 2):
                    three = carried_net(pairs, gates, gates)
                    self.assertTrue(can_carry(three.middle, three.gates) and three.is_sound())
                    self.same({one: call[0] for one, call in three.calls.items()},
                              {one: gate for one, gate in enumerate(pairs) if gate is not None})

    def test_calls_one_by_one_in_nets_that_never_block_or_move_calls(self):
        draws = random.Random(133)
        for gates, switches in ((1, 3), (2, 2), (2, 3), (3, 3)):
            unmoved, moved = Clos(2 * gates - 1, gates, switches), Clos(gates, gates, switches)
            self.assertTrue(never_blocks(unmoved.middle, gates) and can_carry(moved.middle, gates))
            for _ in range(200):
                one, other = draws.randrange(unmoved.size()), draws.randrange(unmoved.size())
                taken_out = [call[0] for call in unmoved.calls.values()]
                if one in unmoved.calls:
                    unmoved.end(one)
                    moved.end(one)
                elif other not in taken_out:
                    unmoved.put(one, other)
                    moved.put_moving(one, other)
                self.assertTrue(unmoved.is_sound() and moved.is_sound())

    def test_a_net_that_is_too_small_is_told_with_calls_that_it_can_not_carry(self):
        for middle, gates in itertools.product(range(1, 4), repeat=2):
            short, row = short_row(middle, gates), blocking_row(middle, gates)
            self.assertEqual((short is None, row is None), (middle >= gates, middle >= 2 * gates - 1))
            if short is not None:
                # All of one switch's gates go to one switch, and each needs a middle one of its own.
                for order in itertools.product(range(middle), repeat=len(short)):
                    net = Clos(middle, gates, 2)
                    with self.assertRaises(Blocked):
                        for (one, other), number in zip(short, order):
                            net.put_by(one, other, number)
            if row is not None:
                net = Clos(middle, gates, 3)
                for call in row[0]:
                    net.put_by(*call)
                self.refused(Blocked, net.put, *row[1])
                self.same(told_block(middle, gates)[-1], f"{row[1][0]} {row[1][1]}")

    def test_said_to_a_desk_and_done_again(self):
        for middle, sure in ((1, "too small"), (2, "carries all moved"), (3, "never blocks")):
            for pairs in full_pairings(4):
                desk = Desk()
                desk.say(f"open {middle} 2 2")
                answers = [desk.say(f"{'call' if middle == 3 else 'move'} {one} {gate}") for one, gate in enumerate(pairs)]
                blocked = ("error: blocked",) in answers
                self.assertEqual((desk.say("sure"), blocked), ((sure,), middle == 1))
                again = done_again(desk.text)
                self.same(again.say("show"), desk.say("show"))
                self.same(len(again.say("show")), sum(not (row and row[0].startswith("error")) for row in answers))
