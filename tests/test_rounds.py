"""Points [1], [12] and [30]: rounds."""

import itertools
import random
from fractions import Fraction

from crossloom.errors import BadSize
from crossloom.rounds import (
    Deficits, behind_fluid, check_packets, end_times, fair_order, fluid_time, is_ahead, longest, tag)
from tests.every import Case, as_lists


def some_packets():
    """Return (packets, weights): none, one queue, all small ones of two queues, and drawn ones of up to four."""
    found = [((), ()), ((), (1,)), ((), (2, 3)), (((0, 4),), (3,)), (((0, 2), (0, 5), (0, 1)), (2,))]
    kinds = list(itertools.product(range(2), (1, 2, 3)))
    for size in range(1, 4):
        for number, packets in enumerate(itertools.product(kinds, repeat=size)):
            found.append((packets, ((1, 1), (1, 2), (3, 2))[number % 3]))
    draws = random.Random(12)
    for number in range(60):
        weights = tuple(draws.choice((1, 1, 2, 3, 7)) for _ in range(2 + number % 3))
        packets = tuple((draws.randrange(len(weights)), draws.randint(1, 9)) for _ in range(4 + number % 7))
        found.append((packets, weights))
    return found


def fluid_ends(packets, weights):
    """Return when each packet is over where all queues are served at once by their weights, change by change."""
    queues = [[place for place, packet in enumerate(packets) if packet[0] == queue] for queue in range(len(weights))]
    rest = {place: Fraction(packet[1]) for place, packet in enumerate(packets)}
    ends = [None] * len(packets)
    now = Fraction(0)
    while any(queues):
        busy = [queue for queue in range(len(weights)) if queues[queue]]
        whole = sum(weights[queue] for queue in busy)
        step = min(rest[queues[queue][0]] * whole / weights[queue] for queue in busy)
        now += step
        for queue in busy:
            rest[queues[queue][0]] -= step * weights[queue] / whole
            if rest[queues[queue][0]] == 0:
                ends[queues[queue].pop(0)] = now
    return ends


class Packets(Case):
    def test_packets_told(self):
        for packets, weights in some_packets():
            found = self.both(lambda rows: check_packets(rows[0], rows[1]), (packets, weights))
            self.same(found, list(packets))
            self.same(self.both(longest, packets), max((length for _, length in packets), default=0))

    def test_what_is_refused(self):
        for packets, weights in (((), (0,)), ((), (1, -1)), (((0, 1),), (1, 0)), (((1, 1),), (1,)), (((-1, 1),), (1,)),
                                 (((0, 0),), (1,)), (((0, -3),), (1,)), (((0, 1), (0, 0)), (2, 1)), (((0, 1),), ())):
            for call in (check_packets, fair_order, behind_fluid):
                self.refused(BadSize, call, packets, weights)
                self.refused(BadSize, call, as_lists(packets), list(weights))

    def test_tags(self):
        packets = ((0, 4), (1, 3), (0, 2), (1, 3), (0, 1))
        found = [tag(packets, (2, 3), place) for place in range(5)]
        self.same(found, [(4, 2), (3, 3), (6, 2), (6, 3), (7, 2)])
        self.same([tag(as_lists(packets), [2, 3], place) for place in range(5)], found)
        for packets, weights in some_packets():
            for place, (queue, _) in enumerate(packets):
                lengths = sum(length for other, length in packets[:place + 1] if other == queue)
                top, low = tag(packets, weights, place)
                self.assertEqual(Fraction(top, low), Fraction(lengths, weights[queue]))

    def test_is_ahead(self):
        for one, other in itertools.product(itertools.product(range(5), range(1, 4)), repeat=2):
            wanted = Fraction(*one) < Fraction(*other)
            self.same(self.both(lambda rows: is_ahead(rows[0], rows[1]), (one, other)), wanted)


class FairOrder(Case):
    def test_by_tags_and_those_alike_by_places(self):
        for packets, weights in some_packets():
            tags = [Fraction(sum(length for other, length in packets[:place + 1] if other == queue), weights[queue])
                    for place, (queue, _) in enumerate(packets)]
            found = self.both(lambda rows: fair_order(rows[0], rows[1]), (packets, weights))
            self.same(found, tuple(sorted(range(len(packets)), key=lambda place: (tags[place], place))))
            ends = self.both(lambda rows: end_times(rows[0], rows[1]), (packets, found))
            for spot, place in enumerate(found):
                self.same(ends[place], sum(packets[other][1] for other in found[:spot + 1]))
            self.same(len(ends), len(packets))

    def test_worked_by_hand(self):
        packets = ((0, 4), (1, 3), (0, 2), (1, 3), (2, 2))
        # Tags 4, 3, 6, 6, 2 with weights alike, and 4/2, 3/1, 6/2, 6/1, 2/1 with weights unlike.
        self.same(fair_order(packets, (1, 1, 1)), (4, 1, 0, 2, 3))
        self.same(fair_order(packets, (2, 1, 1)), (0, 4, 1, 2, 3))
        self.same(end_times(packets, (4, 1, 0, 2, 3)), (9, 5, 11, 14, 2))
        self.same(end_times(packets, (0, 1, 2, 3, 4)), (4, 7, 9, 12, 14))
        self.same([fair_order((), (1,)), end_times((), ()), fair_order([], [])], [(), (), ()])

    def test_no_packet_is_later_than_the_longest_behind_all_at_once(self):
        for packets, weights in some_packets():
            wanted = fluid_ends(packets, weights)
            ends = end_times(packets, fair_order(packets, weights))
            found = self.both(lambda rows: behind_fluid(rows[0], rows[1]), (packets, weights))
            self.assertIsInstance(found, tuple)
            self.assertEqual([Fraction(top, low) for top, low in found],
                             [end - fluid for end, fluid in zip(ends, wanted)])
            self.assertTrue(all(low > 0 and top <= longest(packets) * low for top, low in found))


class Fluid(Case):
    def test_against_serving_all_at_once_change_by_change(self):
        for packets, weights in some_packets():
            wanted = fluid_ends(packets, weights)
            for place in range(len(packets)):
                top, low = self.both(lambda rows: fluid_time(rows[0], rows[1], place), (packets, weights))
                self.assertEqual(Fraction(top, low), wanted[place])
                self.assertGreater(low, 0)

    def test_worked_by_hand(self):
        packets = ((0, 4), (1, 3), (0, 2), (1, 3))
        # With weights 2 and 1: queue 0 has had 4 and queue 1 two when the first is over, 6 and 3 then, and then all.
        self.assertEqual([Fraction(*fluid_time(packets, (2, 1), place)) for place in range(4)], [6, 9, 9, 12])
        # With weights alike: each has had 3 at 6, 4 at 8, and 6 at 12.
        self.assertEqual([Fraction(*fluid_time(packets, (1, 1), place)) for place in range(4)], [8, 6, 12, 12])
        self.same(behind_fluid(packets, (1, 1)), ((-1, 1), (-3, 1), (-3, 1), (0, 1)))
        # A bare queue takes no part: weights 3 and 5, and only the first has packets.
        self.assertEqual(Fraction(*fluid_time(((0, 2), (0, 5)), (3, 5), 1)), 7)
        self.assertEqual(Fraction(*fluid_time(((0, 3), (1, 1)), (3, 2), 1)), Fraction(5, 2))
        self.same(behind_fluid((), (1,)), ())


class Turn(Case):
    def test_fields_and_what_can_not_be(self):
        for quanta in ((1, 3), [1, 3]):
            turns = Deficits(quanta)
            self.assertEqual(list(turns.quanta), [1, 3])
            self.same((turns.queues, turns.left, turns.sent), ([[], []], [0, 0], [0, 0]))
        for quanta in ((0,), (2, 0), [1, -1], (-4, 5)):
            self.refused(BadSize, Deficits, quanta)
        self.same(Deficits(()).round(), ())

    def test_packets_that_can_not_be_put(self):
        turns = Deficits((2, 2))
        self.same(turns.put(1, 1), None)
        for queue, length in ((0, 0), (0, -1), (2, 1), (-1, 1), (2, 0)):
            self.refused(BadSize, turns.put, queue, length)
        self.same(turns.queues, [[], [1]])
        self.refused(BadSize, Deficits(()).put, 0, 1)

    def test_worked_by_hand(self):
        turns = Deficits((3, 2))
        for queue, length in ((0, 2), (0, 2), (0, 2), (1, 5), (1, 1)):
            turns.put(queue, length)
        self.same(turns.round(), ((0, 2),))
        self.same((turns.left, turns.queues, turns.sent), ([1, 2], [[2, 2], [5, 1]], [2, 0]))
        self.same(turns.round(), ((0, 2), (0, 2)))
        self.same((turns.left, turns.queues, turns.sent), ([0, 4], [[], [5, 1]], [6, 0]))
        # A bare queue has nothing left, and gets nothing.
        self.same([turns.visit(0), turns.visit(1)], [(), (5, 1)])
        self.same((turns.left, turns.queues, turns.sent), ([0, 0], [[], []], [6, 6]))
        self.same([turns.visit(1), turns.round()], [(), ()])
        self.same((turns.left, turns.sent), ([0, 0], [6, 6]))

    def test_round_by_round_for_drawn_packets(self):
        draws = random.Random(14)
        for number in range(60):
            quanta = [draws.randint(1, 6) for _ in range(1 + number % 4)]
            turns = Deficits(quanta)
            queues = [[] for _ in quanta]
            left = [0] * len(quanta)
            gone = [0] * len(quanta)
            for _ in range(12):
                for _ in range(draws.randrange(4)):
                    queue, length = draws.randrange(len(quanta)), draws.randint(1, 9)
                    turns.put(queue, length)
                    queues[queue].append(length)
                wanted = []
                for queue, row in enumerate(queues):
                    left[queue] += quanta[queue] if row else 0
                    while row and row[0] <= left[queue]:
                        left[queue] -= row[0]
                        gone[queue] += row[0]
                        wanted.append((queue, row.pop(0)))
                    left[queue] = left[queue] if row else 0
                self.same(turns.round(), tuple(wanted))
                self.same((turns.queues, turns.left, turns.sent), (queues, left, gone))
