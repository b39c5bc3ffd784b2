"""Spreads: two rows of turning joins with queues between, that spread each stream evenly and keep its order."""

from crossloom.errors import BadGate


class Spread:
    """Gates in that wait for a full row of one stream's cells, middle queues, and what went out."""

    def __init__(self, many):
        self.many = many
        self.waiting = [[[] for _ in range(many)] for _ in range(many)]
        # Each gate in's full rows, (gate out, cells that have not gone to the middle yet), the first ahead.
        self.rows = [[] for _ in range(many)]
        self.middle = [[[] for _ in range(many)] for _ in range(many)]
        self.slot = 0

    def put(self, one, gate, cell):
        """Put a cell in; a stream's row that is full stands in line at its gate; BadGate."""
        if not 0 <= one < self.many or not 0 <= gate < self.many:
            raise BadGate("a gate that isn't there")
        row = self.waiting[one][gate] + [cell]
        if len(row) == self.many:
            self.rows[one].append((gate, row))
            row = []
        self.waiting[one][gate] = row

    def joined(self, one):
        """Return the middle place that a gate in is joined to in this slot."""
        return (one + self.slot) % self.many

    def out_of(self, place):
        """Return the gate out that a middle place is joined to in this slot."""
        return (self.slot - place) % self.many

    def turn(self):
        """Do a slot: rows begin at place nought and go on, middle queues send; return (gate in, gate out, cell)."""
        for one in range(self.many):
            self.go_on(one)
        found = []
        for place in range(self.many):
            gate = self.out_of(place)
            if self.middle[place][gate] != []:
                one, cell = self.middle[place][gate].pop(0)
                found.append((one, gate, cell))
        self.slot += 1
        return tuple(found)

    def go_on(self, one):
        """Let the next cell of a gate in's first row go to the middle, if it is joined to that cell's place."""
        if self.rows[one] == []:
            return
        gate, cells = self.rows[one][0]
        place = self.many - len(cells)
        # A row that has begun is joined to the right place in each slot, for both go on by one.
        if place == self.joined(one):
            self.middle[place][gate].append((one, cells.pop(0)))
        if cells == []:
            self.rows[one].pop(0)

    def left_inside(self):
        """Return how many cells are in full rows or middle queues."""
        in_rows = sum([len(cells) for rows in self.rows for _, cells in rows])
        return in_rows + sum([len(queue) for queues in self.middle for queue in queues])

    def short(self):
        """Return how many cells wait for their stream's row to be full."""
        return sum([len(row) for rows in self.waiting for row in rows])

    def longest(self, gate):
        """Return the longest and the shortest middle queue of a gate out."""
        lengths = [len(queues[gate]) for queues in self.middle]
        return (max(lengths, default=0), min(lengths, default=0))


def drained(spread, most):
    """Turn until no full row or middle cell is left; return what the turns told, in one; None past so many slots."""
    found = []
    slots = 0
    while spread.left_inside() > 0:
        if slots >= most:
            return None
        found.extend(spread.turn())
        slots += 1
    return tuple(found)
