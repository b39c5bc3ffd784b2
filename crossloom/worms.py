"""Worms: packets as long as several links, which take links one by one and leave them behind, or stand still."""

from crossloom.errors import BadSize
from crossloom.searches import fixed
from crossloom.ways import links_of


class Worms:
    """Packets, (way, length), how many links each has taken and left, and who holds which link."""

    def __init__(self, packets):
        self.ways = tuple([fixed(way) for way, _ in packets])
        self.lengths = tuple([length for _, length in packets])
        if any([length < 1 for length in self.lengths]):
            raise BadSize("a packet of no length")
        self.paths = tuple([links_of(way) for way in self.ways])
        self.taken = [0 for _ in self.ways]
        self.left = [0 for _ in self.ways]
        self.holder = {}
        self.slots = 0

    def is_over(self, number):
        """Tell whether a packet has left all its links."""
        return self.left[number] == len(self.paths[number])

    def all_over(self):
        """Tell whether all packets are over."""
        return all([self.is_over(number) for number in range(len(self.ways))])

    def next_link(self, number):
        """Return the link a packet needs next, None where its head has arrived."""
        path = self.paths[number]
        taken = self.taken[number]
        return path[taken] if taken < len(path) else None

    def can_move(self, number):
        """Tell whether a packet's head has arrived, or its next link is free."""
        link = self.next_link(number)
        return link is None or link not in self.holder

    def move(self, number):
        """Move a packet by one: take its next link, or draw its end in; leave links longer behind than it is long."""
        link = self.next_link(number)
        if link is not None:
            self.holder[link] = number
            self.taken[number] += 1
        held = self.taken[number] - self.left[number]
        # Arrived, a packet leaves a link with each move, even where it is longer than what it holds.
        if held > self.lengths[number] or (link is None and held > 0):
            self.leave(number)

    def leave(self, number):
        """Leave a packet's last link behind."""
        del self.holder[self.paths[number][self.left[number]]]
        self.left[number] += 1

    def go(self):
        """Move all packets that can, in order of their numbers; return who moved."""
        found = []
        for number in range(len(self.ways)):
            if not self.is_over(number) and self.can_move(number):
                self.move(number)
                found.append(number)
        self.slots += 1
        return tuple(found)

    def run(self, most):
        """Go on till all are over or none moves; return "over", "still" or, past so many slots, "late"."""
        for _ in range(most):
            if self.all_over():
                return "over"
            if self.go() == ():
                return "still"
        return "over" if self.all_over() else "late"

    def waits_for(self, number):
        """Return who holds the link a packet needs next, None for nobody."""
        return self.holder.get(self.next_link(number))

    def ring(self):
        """Return packets that wait for each other in a ring, from the lowest on, None for none."""
        for start in range(len(self.ways)):
            found = [start]
            number = self.waits_for(start)
            while number is not None and number not in found:
                found.append(number)
                number = self.waits_for(number)
            if number == start:
                return tuple(found)
        return None


def alone(way, length):
    """Return how many slots a packet takes alone: its links, and its length to draw its end in, nought for no links."""
    links = len(links_of(way))
    # No more of a packet than its way has links is on them when its head arrives, and is to be drawn in.
    return links + min(length, links)
