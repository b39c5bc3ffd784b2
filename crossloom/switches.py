"""Switches: a whole one, slot by slot: streams shaped at their gates, queues, and frames that serve them."""

from crossloom.buckets import Bucket
from crossloom.crossbars import Crossbar
from crossloom.curves import bucket_curve, most_queue, most_wait
from crossloom.errors import BadGate, BadRate
from crossloom.frames import check_rates, frame, least_served, no_rates, widened


class Stream:
    """A stream from a gate in to a gate out: its burst of cells, and its cells a frame."""

    def __init__(self, one, gate, burst, rate):
        self.one = one
        self.gate = gate
        self.burst = burst
        self.rate = rate


class Switch:
    """So many gates, a frame's slots, the streams, the plan, and the crossbar."""

    def __init__(self, many, slots):
        if slots < 1:
            raise BadRate("a frame without slots")
        self.many = many
        self.slots = slots
        self.streams = []
        self.buckets = []
        # Of each stream, the last slot in which cells were offered, and how many were put in in it.
        self.offered = []
        self.brought = []
        self.plan = frame(self.all_rates(), slots)
        self.bar = Crossbar(many)
        self.refused = 0

    def all_rates(self):
        """Return the slots a frame that each pair of gates has been given."""
        rates = no_rates(self.many)
        for stream in self.streams:
            rates = widened(rates, stream.one, stream.gate, stream.rate)
        return rates

    def admit(self, one, gate, burst, rate):
        """Admit a stream of a burst and cells a frame, ahead of all slots; return its number; BadRate, BadGate."""
        if not 0 <= one < self.many or not 0 <= gate < self.many:
            raise BadGate("a gate that isn't there")
        if any([(stream.one, stream.gate) == (one, gate) for stream in self.streams]):
            raise BadRate("a pair of gates that has a stream")
        if self.bar.slot > 0 or burst < 1 or rate < 1:
            raise BadRate("a stream of nothing, or behind the first slot")
        rows = check_rates(widened(self.all_rates(), one, gate, rate), self.slots)
        # A mark is a part of a cell, as many to a cell as a frame has slots: so a slot brings the rate in marks.
        bucket = Bucket(burst * self.slots, rate)
        self.plan = frame(rows, self.slots)
        self.streams.append(Stream(one, gate, burst, rate))
        self.buckets.append(bucket)
        self.offered.append(None)
        self.brought.append(0)
        return len(self.streams) - 1

    def offer(self, counts):
        """Put as many cells of each stream as come, where it keeps its burst and rate; return the streams refused."""
        found = []
        for number in range(len(self.streams)):
            # Of streams behind the last count none come, but their buckets fill.
            count = counts[number] if number < len(counts) else 0
            if self.accepts(number, count):
                self.bring(number, count)
            else:
                self.refused += count
                found.append(number)
        return tuple(found)

    def accepts(self, number, count):
        """Take the marks of so many cells from a stream's bucket if they are there; return whether they were."""
        bucket = self.buckets[number]
        marks = count * self.slots
        if self.offered[number] != self.bar.slot:
            self.offered[number] = self.bar.slot
            self.brought[number] = 0
            return bucket.take(marks)
        # Offered again in a slot, for which the bucket has been filled.
        if marks > bucket.marks:
            return False
        bucket.marks -= marks
        return True

    def bring(self, number, count):
        """Put so many cells of a stream in its queue."""
        stream = self.streams[number]
        for _ in range(count):
            self.bar.put(stream.one, stream.gate, (number, self.bar.slot, self.brought[number]))
            self.brought[number] += 1

    def turn(self, counts):
        """Do a slot: cells come, the frame's pairing is served; return (gate in, gate out, cell, slots waited)."""
        self.offer(counts)
        return self.bar.serve(self.plan[self.bar.slot % self.slots])

    def comes(self, number, slots):
        """Return the curve of what a stream may bring in up to so many slots."""
        stream = self.streams[number]
        marks = bucket_curve(stream.burst * self.slots, stream.rate, slots)
        return tuple([most // self.slots for most in marks])

    def serves(self, number, slots):
        """Return the curve of what a stream's pair of gates is surely served in up to so many slots."""
        stream = self.streams[number]
        first = [least_served(self.plan, stream.one, stream.gate, size) for size in range(self.slots)]
        # In each whole frame the pair has just its rate, wherever the frame's slots begin.
        return tuple([size // self.slots * stream.rate + first[size % self.slots] for size in range(slots + 1)])

    def far(self, number):
        """Return slots enough for all bounds of a stream: frames till its burst is served, and five more."""
        stream = self.streams[number]
        frames = (stream.burst + stream.rate - 1) // stream.rate
        return (frames + 5) * self.slots

    def queue_bound(self, number):
        """Return the most cells of a stream that ever wait behind a slot's coming in."""
        far = self.far(number)
        # Behind a slot's coming in the slots ahead of it have been served, the slot itself has not.
        return most_queue(self.comes(number, far), (0,) + self.serves(number, far))

    def wait_bound(self, number):
        """Return the most slots that a cell of a stream ever waits ahead of the slot in which it goes."""
        # A frame later as much more has come as is served in a frame: waits are the same again.
        return most_wait(self.comes(number, self.slots), self.serves(number, self.far(number)))
