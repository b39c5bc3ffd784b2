"""Rooms: one room of cells for all gates out, and what is kept when it is full."""

from crossloom.errors import BadSize

# The most cells of which all ways of keeping and throwing away are tried.
MOST_TRIED = 12


class Room:
    """So many cells at most, and how many wait for each gate out."""

    def __init__(self, gates, most):
        if gates < 1 or most < 0:
            raise BadSize("a room without a gate, or below nought")
        self.most = most
        self.waiting = [0 for _ in range(gates)]
        self.lost = 0
        self.sent = 0

    def free_places(self):
        """Return how many more cells go in."""
        return self.most - sum(self.waiting)

    def full(self):
        """Tell whether no more cell goes in."""
        return self.free_places() <= 0

    def longest(self):
        """Return the gate with the most cells, the first of as many."""
        return self.waiting.index(max(self.waiting))

    def put_if(self, gate, kept):
        """Put a cell in where it is to be kept, else count it as lost; return whether it is kept."""
        if kept:
            self.waiting[gate] += 1
        else:
            self.lost += 1
        return kept

    def put(self, gate):
        """Put a cell in, if there is room; return whether it is kept."""
        return self.put_if(gate, not self.full())

    def put_pushing(self, gate):
        """Put a cell in; where it is full a cell of the longest gate goes out for it, if that is longer by two."""
        longest = self.longest()
        if self.full() and self.waiting[longest] >= self.waiting[gate] + 2:
            self.waiting[longest] -= 1
            self.lost += 1
        self.put(gate)

    def put_within(self, gate, part):
        """Put a cell in where its gate has fewer than so many times the free places; return whether it is kept."""
        top, low = part if isinstance(part, (list, tuple)) else (part, 1)
        return self.put_if(gate, self.waiting[gate] * low < top * self.free_places())

    def send(self):
        """Let each gate with cells send one; return the gates."""
        found = [gate for gate, count in enumerate(self.waiting) if count > 0]
        for gate in found:
            self.waiting[gate] -= 1
        self.sent += len(found)
        return tuple(found)


def sent_by(gates, most, arrivals, pushing):
    """Return how many cells are sent in all when gates of cells come slot by slot, and all that is kept is sent."""
    room = Room(gates, most)
    for row in arrivals:
        for gate in row:
            if pushing:
                room.put_pushing(gate)
            else:
                room.put(gate)
        room.send()
    return room.sent + sum(room.waiting)


def best_sent(gates, most, arrivals):
    """Return the most that any way of keeping and throwing away could send; for up to a dozen cells."""
    if sum([len(row) for row in arrivals]) > MOST_TRIED:
        raise BadSize("more cells than can be tried")
    # A state is how many cells wait for each gate; told of it is the most sent until then.
    states = {tuple([0 for _ in range(gates)]): 0}
    for row in arrivals:
        for gate in row:
            states = with_cell(states, gate, most)
        states = sent_once(states)
    return max([sent + sum(waiting) for waiting, sent in states.items()])


def with_cell(states, gate, most):
    """Return the states reached when a cell is kept where there is room, or thrown away."""
    found = {}
    for waiting, sent in states.items():
        better(found, waiting, sent)
        if sum(waiting) < most:
            better(found, waiting[:gate] + (waiting[gate] + 1,) + waiting[gate + 1:], sent)
    return found


def sent_once(states):
    """Return the states when each gate with cells has sent one, with how many were sent."""
    found = {}
    for waiting, sent in states.items():
        sending = len([count for count in waiting if count > 0])
        better(found, tuple([max(count - 1, 0) for count in waiting]), sent + sending)
    return found


def better(states, waiting, sent):
    """Put a state into a table of states, with the most that was sent until then."""
    states[waiting] = max(sent, states.get(waiting, sent))
