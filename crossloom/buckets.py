"""Buckets: streams that never bring more than a burst and a rate, tests of them, and shapers that make them so."""

from crossloom.errors import BadSize


class Bucket:
    """A bucket of so many marks that fills by a rate a slot, and how full it is."""

    def __init__(self, burst, rate):
        if burst < 0 or rate < 0:
            raise BadSize("a burst or a rate below nought")
        self.burst = burst
        self.rate = rate
        self.marks = burst

    def take(self, count):
        """Fill by the rate and take so many marks if they are there; return whether they were."""
        self.marks = refilled(self.marks, self.burst, self.rate)
        if count > self.marks:
            return False
        self.marks -= count
        return True


def refilled(marks, burst, rate):
    """Return the marks at hand in a slot: what is kept is a burst at most, and a slot's rate comes on top."""
    return min(marks, burst) + rate


def most_over(arrivals, rate):
    """Return, slot by slot, the most that any slots on end up to there bring beyond the rate for each."""
    found = []
    over = 0
    for count in arrivals:
        over = max(over, 0) + count - rate
        found.append(over)
    return found


def keeps(arrivals, burst, rate):
    """Tell whether in any slots on end no more comes than the burst and the rate for each."""
    return all([over <= burst for over in most_over(arrivals, rate)])


def taken(arrivals, burst, rate):
    """Return whether a bucket takes what comes, slot by slot: all or nothing of each."""
    bucket = Bucket(burst, rate)
    return tuple([bucket.take(count) for count in arrivals])


def least_burst(arrivals, rate):
    """Return the least burst with which arrivals keep a rate."""
    return max([0] + most_over(arrivals, rate))


def shaped(arrivals, burst, rate):
    """Return (what goes out in each slot, what waits behind each): as much at once as keeps the burst and rate."""
    marks = burst
    waiting = 0
    out = []
    waits = []
    for count in arrivals:
        marks = refilled(marks, burst, rate)
        waiting = waiting + count
        sent = max(min(waiting, marks), 0)
        marks = marks - sent
        waiting = waiting - sent
        out.append(sent)
        waits.append(waiting)
    return (tuple(out), tuple(waits))


def longest_queue(arrivals, burst, rate):
    """Return the most that waits behind any slot at a shaper."""
    return max(shaped(arrivals, burst, rate)[1], default=0)


def together(one, other):
    """Return two streams put together slot by slot."""
    # Behind its last slot a stream brings nothing.
    slots = max(len(one), len(other))
    return tuple([brought(one, slot) + brought(other, slot) for slot in range(slots)])


def brought(row, slot):
    """Return what a stream brings in a slot, nought behind its last one."""
    return row[slot] if slot < len(row) else 0


def both_kept(one, other):
    """Return the burst and rate that two streams keep together."""
    return (one[0] + other[0], one[1] + other[1])
