"""Times: switches of time and space: slots of lines exchanged, by inner slots, as a net of three rows does."""

from crossloom.clos import IN, OUT, Clos
from crossloom.errors import BadGate, BadSize


class Exchange:
    """So many lines of so many slots a frame, and so many inner slots, with the inner slot of each call."""

    def __init__(self, lines, slots, inner):
        if lines < 1 or slots < 1 or inner < 1:
            raise BadSize("an exchange has one of each at least")
        self.lines = lines
        self.slots = slots
        self.inner = inner
        # Slots of lines are its gates, lines its switches, inner slots its middle ones.
        self.net = Clos(inner, slots, lines)

    def spot(self, line, slot):
        """Return the number of a line's slot; BadGate."""
        if not 0 <= line < self.lines or not 0 <= slot < self.slots:
            raise BadGate("a line or a slot that isn't there")
        return line * self.slots + slot

    def connect(self, line, slot, other, goal):
        """Connect a line's slot to another line's slot, calls moved where they must be; return how many were moved."""
        return len(self.net.put_moving(self.spot(line, slot), self.spot(other, goal)))

    def part(self, line, slot):
        """End the call of a line's slot."""
        self.net.end(self.spot(line, slot))

    def calls_at(self, side, line):
        """Return, for each inner slot, the gate in of a line's call on a side, None for none."""
        return [self.net.at(side, line, number) for number in range(self.inner)]

    def goal_of(self, gate):
        """Return the gate out of a gate in's call."""
        return self.net.calls[gate][0]

    def reads(self, line):
        """Return, for each inner slot, the slot of a line whose cell is sent in it, None for none."""
        return tuple([None if gate is None else gate % self.slots for gate in self.calls_at(IN, line)])

    def joins(self, number):
        """Return, for each line, the line it is joined to in an inner slot, None for none."""
        gates = [self.net.at(IN, line, number) for line in range(self.lines)]
        return tuple([None if gate is None else self.goal_of(gate) // self.slots for gate in gates])

    def writes(self, line):
        """Return, for each inner slot, the slot of a line out that its cell is kept for, None for none."""
        gates = self.calls_at(OUT, line)
        return tuple([None if gate is None else self.goal_of(gate) % self.slots for gate in gates])

    def frame(self, cells):
        """Return the cells of each line out, slot by slot, for a frame of cells of each line in, None for none."""
        if len(cells) != self.lines or any([len(row) != self.slots for row in cells]):
            raise BadSize("a frame of another size")
        found = [[None for _ in range(self.slots)] for _ in range(self.lines)]
        for one, other, _ in self.net.shown():
            found[other // self.slots][other % self.slots] = cells[one // self.slots][one % self.slots]
        return tuple([tuple(row) for row in found])


def inner_needed(slots, moving):
    """Return the least inner slots that connect any free slots of two lines or more, calls moved or not."""
    return slots if moving else 2 * slots - 1


def wait_of(slot, inner_slot, goal, slots):
    """Return how many slots a cell is kept: till its inner slot, then till its slot out, each within a frame."""
    return (inner_slot - slot) % slots + (goal - inner_slot) % slots
