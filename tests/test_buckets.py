"""Points [1], [11] and [30]: buckets and shapers."""

import itertools
import random

from crossloom.buckets import Bucket, both_kept, keeps, least_burst, longest_queue, shaped, taken, together
from crossloom.errors import BadSize
from tests.every import Case

LIMITS = list(itertools.product(range(4), range(3)))


def some_streams():
    """Return streams: all of up to four slots with up to three cells each, and drawn ones of up to eight slots."""
    found = [row for slots in range(5) for row in itertools.product(range(4), repeat=slots)]
    draws = random.Random(11)
    for slots in (5, 6, 7, 8):
        found += [tuple(draws.choice((0, 0, 1, 1, 2, 3, 5)) for _ in range(slots)) for _ in range(40)]
    return found


def slow_keeps(arrivals, burst, rate):
    """Tell whether each sum over slots on end is no more than the burst and the rate for each slot."""
    ends = itertools.combinations(range(len(arrivals) + 1), 2)
    return all(sum(arrivals[start:end]) <= burst + rate * (end - start) for start, end in ends)


def ways_out(arrivals):
    """Return all rows of what could go out in each slot: never more than came and has not gone yet."""
    found = [()]
    for slot in range(len(arrivals)):
        came = sum(arrivals[:slot + 1])
        found = [row + (count,) for row in found for count in range(came - sum(row) + 1)]
    return found


class Kept(Case):
    def test_against_sums_over_slots_on_end(self):
        for arrivals in some_streams():
            for burst, rate in LIMITS:
                self.same(self.both(keeps, arrivals, burst, rate), slow_keeps(arrivals, burst, rate))

    def test_the_least_burst_against_trying_bursts(self):
        for arrivals in some_streams():
            for rate in range(4):
                found = self.both(least_burst, arrivals, rate)
                self.same(found, next(burst for burst in itertools.count() if slow_keeps(arrivals, burst, rate)))

    def test_edges(self):
        self.same(keeps((), 0, 0), True)
        self.same(keeps((0, 0), 0, 0), True)
        self.same(keeps((0, 1), 0, 0), False)
        self.same(keeps((3,), 1, 2), True)
        self.same(keeps((4,), 1, 2), False)
        self.same(keeps((3, 2, 2), 1, 2), True)
        self.same(keeps((3, 0, 3, 3), 1, 2), False)
        self.same([least_burst((), 1), least_burst((0, 1), 3), least_burst((2, 2), 0)], [0, 0, 4])

    def test_streams_together(self):
        self.same(self.both(lambda rows: together(rows[0], rows[1]), ((1, 2, 0), (0, 3, 1))), (1, 5, 1))
        self.same(together((1, 2), (4,)), (5, 2))
        self.same(together([4], [1, 2]), (5, 2))
        self.same(together((), ()), ())
        self.same(self.both(lambda rows: both_kept(rows[0], rows[1]), ((3, 1), (2, 4))), (5, 5))

    def test_both_kept_is_kept_by_streams_together(self):
        rows = [row for row in some_streams() if len(row) == 3][::3]
        for (one, first), (other, second) in itertools.product(zip(rows, LIMITS * 2), repeat=2):
            if slow_keeps(one, *first) and slow_keeps(other, *second):
                self.assertTrue(slow_keeps(together(one, other), *both_kept(first, second)))


class Buckets(Case):
    def test_fields_and_what_can_not_be(self):
        for burst, rate in itertools.product(range(-1, 3), repeat=2):
            if burst < 0 or rate < 0:
                self.refused(BadSize, Bucket, burst, rate)
                self.refused(BadSize, taken, (1, 0), burst, rate)
                self.refused(BadSize, taken, [], burst, rate)
            else:
                bucket = Bucket(burst, rate)
                self.same((bucket.burst, bucket.rate, bucket.marks), (burst, rate, burst))

    def test_all_of_a_slot_or_nothing(self):
        bucket = Bucket(3, 2)
        self.same([bucket.take(6), bucket.marks], [False, 5])
        self.same([bucket.take(5), bucket.marks], [True, 0])
        self.same([bucket.take(3), bucket.marks], [False, 2])
        self.same([bucket.take(3), bucket.marks], [True, 1])
        self.same([bucket.take(0), bucket.take(0), bucket.take(6)], [True, True, False])
        self.same([bucket.take(5), bucket.take(2), bucket.take(3)], [True, True, False])
        self.same((bucket.burst, bucket.rate), (3, 2))

    def test_bursts_and_rates_of_nought(self):
        self.same(taken((0, 1, 0), 0, 0), (True, False, True))
        self.same(taken((1, 2, 1), 0, 1), (True, False, True))
        self.same(taken((1, 2, 1), 3, 0), (True, True, False))
        self.same(taken((), 1, 1), ())

    def test_what_is_taken_keeps_and_what_is_not_would_break(self):
        for arrivals in some_streams():
            for burst, rate in LIMITS:
                found = self.both(taken, arrivals, burst, rate)
                kept = []
                for count, was in zip(arrivals, found):
                    self.same(was, slow_keeps(kept + [count], burst, rate))
                    kept.append(count if was else 0)
                self.same(len(found), len(arrivals))


class Shapers(Case):
    def test_keeps_the_burst_and_rate_and_nothing_is_lost_or_early(self):
        for arrivals in some_streams():
            for burst, rate in LIMITS:
                out, waits = self.both(shaped, arrivals, burst, rate)
                self.assertTrue(slow_keeps(out, burst, rate))
                for slot in range(len(arrivals)):
                    gone = sum(out[:slot + 1])
                    self.same(waits[slot], sum(arrivals[:slot + 1]) - gone)
                    self.assertTrue(out[slot] >= 0 and waits[slot] >= 0)
                self.same((len(out), len(waits)), (len(arrivals),) * 2)
                self.same(self.both(longest_queue, arrivals, burst, rate), max(waits, default=0))
                if slow_keeps(arrivals, burst, rate):
                    self.same(out, tuple(arrivals))

    def test_no_other_way_sends_more_by_any_slot(self):
        for arrivals in [row for row in some_streams() if len(row) <= 4 and sum(row) <= 6]:
            others = ways_out(arrivals)
            for burst, rate in ((0, 0), (0, 1), (1, 1), (2, 0), (1, 2)):
                out = shaped(arrivals, burst, rate)[0]
                for other in others:
                    if slow_keeps(other, burst, rate):
                        for slot in range(len(arrivals)):
                            self.assertLessEqual(sum(other[:slot + 1]), sum(out[:slot + 1]))

    def test_worked_by_hand(self):
        self.same(shaped((5, 0, 4, 0, 0), 2, 1), ((3, 1, 1, 1, 1), (2, 1, 4, 3, 2)))
        self.same(longest_queue((5, 0, 4, 0, 0), 2, 1), 4)
        self.same(shaped((0, 0, 5, 1), 1, 1), ((0, 0, 2, 1), (0, 0, 3, 3)))
        self.same(shaped((), 1, 1), ((), ()))
        self.same(shaped([2, 1], 0, 0), ((0, 0), (2, 3)))
        self.same(longest_queue((), 0, 0), 0)
