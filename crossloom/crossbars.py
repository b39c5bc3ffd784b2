"""Crossbars: gates in with a queue for each gate out, served by a pairing each slot, first come first out."""

from crossloom.errors import BadGate
from crossloom.matches import check_wants


class Crossbar:
    """Queues of cells for each pair of gates, the slot, and what came and went."""

    def __init__(self, many):
        self.many = many
        self.queues = [[[] for _ in range(many)] for _ in range(many)]
        self.slot = 0
        self.came = 0
        self.went = 0

    def put(self, one, gate, cell):
        """Put a cell in a queue, with the slot it came in; BadGate."""
        if not 0 <= one < self.many or not 0 <= gate < self.many:
            raise BadGate("a gate that isn't there")
        self.queues[one][gate].append((cell, self.slot))
        self.came += 1

    def wants(self):
        """Return the gates out for which each gate in has cells."""
        rows = [[gate for gate, length in enumerate(row) if length > 0] for row in self.row_lengths()]
        return check_wants(rows, self.many)

    def row_lengths(self):
        """Return how many cells wait for each pair of gates."""
        return tuple([tuple([len(queue) for queue in row]) for row in self.queues])

    def how_many(self):
        """Return how many cells wait in all."""
        return sum([sum(row) for row in self.row_lengths()])

    def serve(self, match):
        """Send the first cell of each pair of a match; return (gate in, gate out, cell, slots waited); end the slot."""
        found = []
        for one, gate in enumerate(match):
            if gate is not None and self.queues[one][gate] != []:
                cell, slot = self.queues[one][gate].pop(0)
                found.append((one, gate, cell, self.slot - slot))
        self.went += len(found)
        self.slot += 1
        return tuple(found)


def run(many, arrivals, choose):
    """Return what went in each slot of arrivals, (gate in, gate out, cell), by the match of choose(bar, slot)."""
    bar = Crossbar(many)
    found = []
    for slot, row in enumerate(arrivals):
        for one, gate, cell in row:
            bar.put(one, gate, cell)
        found.append(bar.serve(choose(bar, slot)))
    return tuple(found)


def emptied(bar, choose, most):
    """Serve a bar by choose(bar, slot from nought) till it is bare, so many slots at most; return how many or None."""
    slot = 0
    while bar.how_many() > 0:
        if slot >= most:
            return None
        bar.serve(choose(bar, slot))
        slot += 1
    return slot


def single_queue(many, arrivals, slots):
    """Return how many cells went in so many slots when each gate in has one queue: the first may hold all others up."""
    queues = [[] for _ in range(many)]
    went = 0
    for slot in range(slots):
        if slot < len(arrivals):
            for one, gate, _ in arrivals[slot]:
                queues[one].append(gate)
        went = went + served_heads(queues)
    return went


def served_heads(queues):
    """Let each gate out serve the first queue whose head wants it; return how many went."""
    # Told ahead, for what stands behind a head that goes waits for the next slot.
    heads_now = [queue[0] if queue != [] else None for queue in queues]
    went = 0
    for one, gate in enumerate(heads_now):
        if gate is not None and gate not in heads_now[:one]:
            queues[one].pop(0)
            went += 1
    return went


def heads(bar):
    """Return each gate in's oldest cell, (slot, gate out, cell), None for none."""
    found = []
    for row in bar.queues:
        firsts = [(queue[0][1], gate, queue[0][0]) for gate, queue in enumerate(row) if queue != []]
        # Gates out are all unlike, so that cells are never held against each other.
        found.append(min(firsts, default=None))
    return tuple(found)
