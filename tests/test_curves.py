"""Points [1] and [11]: curves."""

import itertools
import random

from crossloom.curves import (
    bucket_curve, cell_waits, check_curve, folded, is_under, late_curve, most_queue, most_wait, served_by, surely,
    tightest, unfolded)
from crossloom.errors import BadSize
from tests.every import Case


def some_rows():
    """Return rows of counts: all of up to four slots with up to two each, and drawn ones of up to eight slots."""
    found = [row for slots in range(5) for row in itertools.product(range(3), repeat=slots)]
    draws = random.Random(13)
    for slots in (5, 6, 7, 8):
        found += [tuple(draws.choice((0, 0, 1, 1, 2, 4)) for _ in range(slots)) for _ in range(30)]
    return found


def some_curves():
    """Return curves of one value and more."""
    found = {(0,)}
    for row in some_rows():
        found.add(tuple(itertools.accumulate((0,) + row)))
    return sorted(found)[::5] + [(0,), (0, 0), (0, 7), bucket_curve(2, 1, 6), late_curve(2, 3, 6)]


def sums_of(row, size):
    """Return what a row brings in any so many slots on end, made without the program."""
    return [sum(row[start:start + size]) for start in range(len(row) - size + 1)]


def slot_by_slot(row, offers):
    """Return (what goes out, what waits, the slots that each cell that went waited), cell by cell."""
    queue, out, waits, cells = [], [], [], []
    for slot in range(max(len(row), len(offers))):
        queue += [slot] * (row[slot] if slot < len(row) else 0)
        many = min(len(queue), offers[slot] if slot < len(offers) else 0)
        cells += [slot - came for came in queue[:many]]
        queue = queue[many:]
        out.append(many)
        waits.append(len(queue))
    return tuple(out), tuple(waits), tuple(cells)


class Curves(Case):
    def test_rows_that_are_curves_and_others(self):
        for row in [row for size in range(4) for row in itertools.product(range(-1, 3), repeat=size)]:
            if row and row[0] == 0 and list(row) == sorted(row):
                self.same(self.both(check_curve, row), row)
            else:
                self.refused(BadSize, check_curve, row)
                self.refused(BadSize, check_curve, list(row))

    def test_curves_of_a_rate(self):
        self.same(bucket_curve(3, 2, 4), (0, 5, 7, 9, 11))
        self.same([bucket_curve(3, 2, 0), bucket_curve(0, 0, 2), bucket_curve(2, 0, 1)], [(0,), (0, 0, 0), (0, 2)])
        self.same(late_curve(2, 3, 5), (0, 0, 0, 3, 6, 9))
        self.same([late_curve(2, 3, 0), late_curve(0, 1, 2), late_curve(5, 1, 2)], [(0,), (0, 1, 2), (0, 0, 0)])

    def test_folded_against_its_sums(self):
        for one, other in itertools.product(some_curves()[::2], repeat=2):
            wanted = [min(one[part] + other[size - part] for part in range(size + 1))
                      for size in range(min(len(one), len(other)))]
            self.same(self.both(lambda rows: folded(rows[0], rows[1]), (one, other)), tuple(wanted))

    def test_unfolded_against_its_sums(self):
        for one, other in itertools.product(some_curves()[::2], repeat=2):
            wanted = [max(one[size + part] - other[part] for part in range(len(other)) if size + part < len(one))
                      for size in range(len(one))]
            self.same(self.both(lambda rows: unfolded(rows[0], rows[1]), (one, other)), tuple(wanted))

    def test_folds_worked_by_hand(self):
        self.same(folded(bucket_curve(2, 1, 3), late_curve(1, 2, 3)), (0, 0, 2, 4))
        self.same(unfolded(bucket_curve(2, 1, 3), late_curve(1, 2, 3)), (3, 4, 5, 5))
        self.same(folded(late_curve(1, 2, 4), late_curve(2, 2, 4)), late_curve(3, 2, 4))
        self.same([folded((0,), (0,)), unfolded((0,), (0,)), folded((0,), (0, 3))], [(0,), (0,), (0,)])
        self.same([folded((), ()), unfolded((), (0,)), unfolded((0, 2), ())], [(), (), ()])


class Rows(Case):
    def test_is_under_against_sums_over_slots_on_end(self):
        for row in some_rows():
            for curve in (bucket_curve(1, 1, 8), bucket_curve(0, 2, 3), late_curve(1, 2, 8), (0,), (0, 9, 9, 9), ()):
                wanted = all(most <= curve[size] for size in range(1, min(len(row) + 1, len(curve)))
                             for most in sums_of(row, size))
                self.same(self.both(lambda rows: is_under(rows[0], rows[1]), (row, curve)), wanted)

    def test_the_tightest_is_the_least_curve_that_a_row_is_under(self):
        for row in some_rows():
            found = self.both(tightest, row)
            self.same(found, tuple(max(sums_of(row, size)) for size in range(len(row) + 1)))
            self.same(check_curve(found), found)
            self.assertTrue(is_under(row, found))
            for size in range(1, len(found)):
                less = found[:size] + (found[size] - 1,) + found[size + 1:]
                self.assertFalse(is_under(row, less))

    def test_what_offers_surely_serve(self):
        for offers in some_rows():
            found = self.both(surely, offers)
            self.same(found, tuple(min(sums_of(offers, size)) for size in range(len(offers) + 1)))
            self.same(check_curve(found), found)

    def test_served_by_slot_by_slot(self):
        rows = some_rows()
        for row, offers in list(zip(rows, rows[::-1])) + list(zip(rows, rows[7:])):
            out, waits, cells = slot_by_slot(row, offers)
            self.same(self.both(lambda rows: served_by(rows[0], rows[1]), (row, offers)), (out, waits))
            self.same(self.both(lambda rows: cell_waits(rows[0], rows[1]), (row, out)), cells)

    def test_rows_worked_by_hand(self):
        self.same(served_by((3, 0, 1, 0), (1, 1, 0, 2)), ((1, 1, 0, 2), (2, 1, 2, 0)))
        self.same(cell_waits((3, 0, 1, 0), (1, 1, 0, 2)), (0, 1, 3, 1))
        self.same(served_by((3,), (1, 1)), ((1, 1), (2, 1)))
        self.same(served_by((1, 1), (1,)), ((1, 0), (0, 1)))
        self.same(served_by((0, 1), (5, 5)), ((0, 1), (0, 0)))
        self.same(served_by((), ()), ((), ()))
        self.same([tightest(()), surely(()), cell_waits((), ()), cell_waits((2,), (1,))], [(0,), (0,), (), (0,)])
        self.same(tightest((1, 3, 0, 2)), (0, 3, 4, 5, 6))
        self.same(surely([1, 3, 0, 2]), (0, 0, 2, 4, 6))


class Bounds(Case):
    def test_worked_by_hand(self):
        comes = bucket_curve(3, 1, 8)
        self.same(most_queue(comes, late_curve(2, 2, 8)), 5)
        self.same(most_wait(comes, late_curve(2, 2, 8)), 3)
        # A rate that is no greater leaves the burst behind for ever: the last slots' wait can't be told.
        self.same(most_queue(comes, late_curve(0, 1, 8)), 3)
        self.same(most_wait(comes, late_curve(0, 1, 8)), None)
        self.same(most_wait(bucket_curve(3, 1, 8), late_curve(0, 1, 11)), 3)
        self.same(most_wait(comes, (0, 0, 0)), None)
        self.same(most_wait((0, 2), (0, 1, 1, 2)), 2)
        self.same([most_queue((0,), (0,)), most_wait((0,), (0,)), most_queue((0, 1), (0, 4))], [0, 0, 0])
        self.same(most_wait((0, 0), (0,)), None)
        self.same([most_queue((), ()), most_wait((), ())], [0, 0])

    def test_no_stream_waits_longer(self):
        rows = [row for row in some_rows() if len(row) == 4][::2] + [row for row in some_rows() if len(row) == 8]
        told = 0
        for row, offers in itertools.product(rows[::3], rows[::4]):
            if len(row) == len(offers):
                _, waits, _ = slot_by_slot(row, offers)
                comes, serves = tightest(row), surely(offers)
                most = self.both(lambda curves: most_queue(curves[0], curves[1]), (comes, serves))
                self.assertLessEqual(max(waits), most)
                wait = self.both(lambda curves: most_wait(curves[0], curves[1]), (comes, serves))
                if wait is not None:
                    told += 1
                    cells = slot_by_slot(row, offers)[2]
                    self.assertLessEqual(max(cells, default=0), wait)
                    # Cells that have not gone by the last slot came too late to have waited longer than told.
                    came = [slot for slot, count in enumerate(row) for _ in range(count)][len(cells):]
                    self.assertTrue(all(len(row) <= slot + wait for slot in came))
        self.assertGreater(told, 20)

    def test_some_stream_waits_as_long(self):
        for burst, rate, wait, pace in itertools.product((0, 1, 4), (0, 1, 2), (0, 1, 3), (1, 2, 3)):
            if pace >= rate:
                # The most comes at once while nothing is served, then as much as the pace goes out.
                row = (burst + rate,) + (rate,) * 29
                offers = (0,) * wait + (pace,) * 40
                _, waits, cells = slot_by_slot(row, offers)
                comes, serves = bucket_curve(burst, rate, 30), late_curve(wait, pace, 60)
                self.assertTrue(is_under(row, comes))
                self.same(most_queue(comes, serves), max(waits))
                self.same(most_wait(comes, serves), max(cells, default=0))
