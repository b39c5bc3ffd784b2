"""Mimics: a switch twice as quick as its lines that sends each cell in the very slot the ideal switch does."""

from crossloom.errors import BadGate


class Ideal:
    """The ideal switch: each cell goes to its gate's queue at once; each gate sends one a slot."""

    def __init__(self, many):
        self.free = [0 for _ in range(many)]

    def leaving(self, gate, slot):
        """Return the slot in which a cell that comes in a slot leaves by a gate."""
        leaves = max(slot, self.free[gate])
        self.free[gate] = leaves + 1
        return leaves


class Mimic:
    """Lists of (cell, gate out, slot to leave) at gates in, best first, and (cell, slot to leave) that crossed."""

    def __init__(self, many):
        self.many = many
        self.ideal = Ideal(many)
        self.lists = [[] for _ in range(many)]
        self.crossed = [[] for _ in range(many)]
        self.slot = 0

    def check(self, one, gate):
        """Refuse with BadGate gates that aren't there."""
        if not 0 <= one < self.many or not 0 <= gate < self.many:
            raise BadGate("a gate that isn't there")

    def put(self, one, gate, cell):
        """Put a cell in its list behind as many as have crossed to its gate and leave ahead of it; BadGate."""
        self.check(one, gate)
        leaves = self.ideal.leaving(gate, self.slot)
        self.lists[one].insert(self.crossed_ahead(gate, leaves), (cell, gate, leaves))

    def crossed_ahead(self, gate, leaves):
        """Return how many cells have crossed to a gate and leave ahead of a slot."""
        return len([slot for _, slot in self.crossed[gate] if slot < leaves])

    def asks(self, gate):
        """Return (slot to leave, gate in, place in its list) of all that wait for a gate, the first to leave first."""
        found = []
        for one, row in enumerate(self.lists):
            found.extend([(leaves, one, place) for place, (_, goal, leaves) in enumerate(row) if goal == gate])
        return sorted(found)

    def wanted(self, gate):
        """Return (slot to leave, gate in, cell) of all that wait for a gate, the first to leave first."""
        return [(leaves, one, self.lists[one][place][0]) for leaves, one, place in self.asks(gate)]

    def place(self, one, cell):
        """Return a cell's place in a list."""
        for place, row in enumerate(self.lists[one]):
            if row[0] == cell:
                return place
        return None

    def spots(self):
        """Return (gate in, place in its list) of the cell that is to cross to each gate out, None for none."""
        asks = [self.asks(gate) for gate in range(self.many)]
        holding = {}
        asking = list(range(self.many))
        while asking != []:
            gate = asking.pop()
            if asks[gate] != []:
                _, one, place = asks[gate][0]
                refused = holding.get(one)
                if refused is None or place < asks[refused][0][2]:
                    holding[one] = gate
                else:
                    refused = gate
                # A gate's first ask is the one that stands: who is refused asks on with the next.
                if refused is not None:
                    asks[refused].pop(0)
                    asking.append(refused)
        return tuple([None if row == [] else row[0][1:] for row in asks])

    def matched(self):
        """Return (gate in, cell) for each gate out or None: gates ask for their first, gates in keep their best."""
        return tuple([None if spot is None else (spot[0], self.lists[spot[0]][spot[1]][0]) for spot in self.spots()])

    def cross(self):
        """Let matched cells cross; return (gate in, gate out, cell)."""
        found = []
        for gate, spot in enumerate(self.spots()):
            if spot is not None:
                cell, _, leaves = self.lists[spot[0]].pop(spot[1])
                self.crossed[gate].append((cell, leaves))
                found.append((spot[0], gate, cell))
        return tuple(found)

    def send(self):
        """Let each gate out send its cell that leaves now; return (gate, cell) by gates, None for one not crossed."""
        found = []
        for gate in range(self.many):
            found.extend([(gate, cell) for cell, leaves in self.crossed[gate] if leaves == self.slot])
            late = [ask for ask in self.asks(gate) if ask[0] == self.slot]
            found.extend([(gate, None) for _ in late])
            self.crossed[gate] = [row for row in self.crossed[gate] if row[1] != self.slot]
        self.slot += 1
        return tuple(found)

    def turn(self, cells, times):
        """Do a slot: put cells, (gate in, gate out, cell), cross so many times, send; return what is sent."""
        # All looked at first, so that none is put in where one is refused.
        for one, gate, _ in cells:
            self.check(one, gate)
        for one, gate, cell in cells:
            self.put(one, gate, cell)
        for _ in range(times):
            self.cross()
        return self.send()

    def slack(self, one, place):
        """Return by how much more have crossed to a cell's gate and leave ahead of it than stand ahead of it."""
        _, gate, leaves = self.lists[one][place]
        return self.crossed_ahead(gate, leaves) - place


def ideal_run(many, arrivals, slots):
    """Return (gate, cell) sent in each slot by the ideal switch."""
    ideal = Ideal(many)
    found = [[] for _ in range(slots)]
    for slot, row in enumerate(arrivals):
        for _, gate, cell in row:
            leaves = ideal.leaving(gate, slot)
            if leaves < slots:
                found[leaves].append((gate, cell))
    return tuple([tuple(sorted(row, key=lambda sent: sent[0])) for row in found])


def mimic_run(many, arrivals, slots, times):
    """Return (gate, cell) sent in each slot by the mimic that crosses so many times a slot."""
    mimic = Mimic(many)
    return tuple([mimic.turn(arrivals[slot] if slot < len(arrivals) else (), times) for slot in range(slots)])
