"""Clos nets: three rows of switches, calls put in one by one, and what blocks them."""

from crossloom.colours import Calls
from crossloom.errors import BadGate, BadNet, Blocked

IN = 0
OUT = 1


class Clos:
    """So many switches in and out with so many gates each, so many middle ones, and which middle one each call has."""

    def __init__(self, middle, gates, switches):
        if middle < 1 or gates < 1 or switches < 1:
            raise BadNet("a net of three rows has one of each at least")
        self.middle = middle
        self.gates = gates
        self.switches = switches
        self.calls = {}

    def size(self):
        """Return how many gates there are on each side."""
        return self.gates * self.switches

    def check(self, one, other):
        """Refuse with BadGate a call of gates that aren't there, or that have one."""
        if not 0 <= one < self.size() or not 0 <= other < self.size():
            raise BadGate("a gate that isn't there")
        if one in self.calls or other in [call[0] for call in self.calls.values()]:
            raise BadGate("a gate that has a call")

    def ends(self, one, other):
        """Return (switch in, switch out) of a call."""
        return (one // self.gates, other // self.gates)

    def used_at(self, side, switch):
        """Return the middle ones by which a switch of a side has calls, in order."""
        return sorted([number for one, other, number in self.shown() if self.ends(one, other)[side] == switch])

    def used_in(self, switch):
        """Return the middle ones that a switch in has calls to, in order."""
        return self.used_at(IN, switch)

    def used_out(self, switch):
        """Return the middle ones that a switch out has calls from, in order."""
        return self.used_at(OUT, switch)

    def free_at(self, side, switch):
        """Return the middle ones by which a switch of a side has no call, in order."""
        used = self.used_at(side, switch)
        return [number for number in range(self.middle) if number not in used]

    def free_middle(self, one, other):
        """Return the middle ones by which a call could go, in order."""
        switch_in, switch_out = self.ends(one, other)
        theirs = self.free_at(OUT, switch_out)
        return [number for number in self.free_at(IN, switch_in) if number in theirs]

    def put(self, one, other):
        """Put a call in by the first free middle one; return it; Blocked, BadGate."""
        self.check(one, other)
        free = self.free_middle(one, other)
        if free == []:
            raise Blocked("a call that finds no middle one")
        self.calls[one] = (other, free[0])
        return free[0]

    def put_by(self, one, other, number):
        """Put a call in by one middle one; Blocked where it isn't free, BadGate."""
        self.check(one, other)
        if number not in self.free_middle(one, other):
            raise Blocked("a middle one that isn't free")
        self.calls[one] = (other, number)

    def end(self, one):
        """End the call of a gate in; BadGate for one that has none."""
        if one not in self.calls:
            raise BadGate("a gate that has no call")
        del self.calls[one]

    def put_moving(self, one, other):
        """Put a call in, others moved where it must be; return the gates in of those moved; Blocked, BadGate."""
        self.check(one, other)
        switch_in, switch_out = self.ends(one, other)
        mine = self.free_at(IN, switch_in)
        theirs = self.free_at(OUT, switch_out)
        if mine == [] or theirs == []:
            raise Blocked("a switch whose middle ones are all used")
        moved = ()
        if self.free_middle(one, other) == []:
            moved = self.exchange(switch_out, mine[0], theirs[0])
        self.put(one, other)
        return moved

    def exchange(self, start, one, other):
        """Exchange two middle ones along the way of calls from a switch out; return the gates in, in order."""
        way = self.way_from(start, one, other)
        for gate in way:
            goal, number = self.calls[gate]
            self.calls[gate] = (goal, one + other - number)
        return tuple(sorted(way))

    def way_from(self, start, one, other):
        """Return the gates in of the calls from a switch out on that go by two middle ones by turns."""
        way = []
        side = OUT
        number = one
        gate = self.at(side, start, number)
        # A way that comes back to its first call is a ring: it ends there.
        while gate is not None and gate not in way:
            way.append(gate)
            side = IN + OUT - side
            number = one + other - number
            gate = self.at(side, self.ends(gate, self.calls[gate][0])[side], number)
        return way

    def at(self, side, switch, number):
        """Return the gate in whose call goes by a middle one at a switch of a side, None for none."""
        for one, other, used in self.shown():
            if used == number and self.ends(one, other)[side] == switch:
                return one
        return None

    def is_sound(self):
        """Tell whether no switch has two calls by one middle one."""
        rows = [self.used_at(side, switch) for side in (IN, OUT) for switch in range(self.switches)]
        return all([len(set(row)) == len(row) for row in rows])

    def shown(self):
        """Return (gate in, gate out, middle one), in order."""
        return tuple([(one, self.calls[one][0], self.calls[one][1]) for one in sorted(self.calls)])


def never_blocks(middle, gates):
    """Tell whether no calls whatever, put in by any free ones, can block one: twice the gates less one are there."""
    return middle >= 2 * gates - 1


def can_carry(middle, gates):
    """Tell whether all pairings can be carried, calls moved: as many as the gates are there."""
    return middle >= gates


def blocking_row(middle, gates):
    """Return (calls with their middle ones, a call that then blocks) of a net of three switches; None for never."""
    if never_blocks(middle, gates):
        return None
    # The first switch in keeps its last gate for the call that blocks.
    held = min(middle, gates - 1)
    first = [(number, 2 * gates + number, number) for number in range(held)]
    second = [(gates + number - held, number - held, number) for number in range(held, middle)]
    return (tuple(first + second), (gates - 1, gates - 1))


def short_row(middle, gates):
    """Return calls that no setting whatever carries: all of one switch to another; None where all can be carried."""
    if can_carry(middle, gates):
        return None
    return tuple([(gate, gate) for gate in range(gates)])


def calls_of(pairs):
    """Return the calls, (gate in, gate out), of a pairing, in order."""
    return [(one, other) for one, other in enumerate(pairs) if other is not None]


def assigned(pairs, gates):
    """Return the middle one for each call of a pairing of switches with so many gates, as few as the gates."""
    # Switches of no gates can't be divided by: there each call is refused by its colour.
    part = max(gates, 1)
    switches = len(pairs) // part
    calls = Calls([(one // part, other // part) for one, other in calls_of(pairs)], switches, switches)
    for number in range(len(calls.calls)):
        calls.colour(number, gates)
    return tuple(calls.colours)


def carried_net(pairs, middle, gates):
    """Return the net in which the calls of a pairing stand as assigned; Blocked for too few middle ones."""
    if middle < gates:
        raise Blocked("less middle ones than gates")
    net = Clos(middle, gates, len(pairs) // max(gates, 1))
    for call, number in zip(calls_of(pairs), assigned(pairs, gates)):
        net.put_by(call[0], call[1], number)
    return net
