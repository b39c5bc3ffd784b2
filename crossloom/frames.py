"""Frames: so many slots again and again, in which each pair of gates has as many as its rate."""

from crossloom.colours import Calls
from crossloom.errors import BadRate

IN = "in"
OUT = "out"


def check_rates(rates, slots):
    """Return rates, rows of counts of slots; BadRate where a gate has more than a frame's slots."""
    found = [tuple(row) for row in rates]
    many = len(found)
    if any([len(row) != many or any([rate < 0 for rate in row]) for row in found]):
        raise BadRate("rows that are no rates")
    if too_much(found, slots) is not None:
        raise BadRate("a gate with more than a frame's slots")
    return found


def frame(rates, slots):
    """Return the pairing of each slot, so that each pair of gates has just its rate of slots; BadRate."""
    rows = check_rates(rates, slots)
    many = len(rows)
    # A call for each slot that a pair is to have: calls of one colour then share a slot.
    calls = Calls(calls_of(rows), many, many)
    for number in range(len(calls.calls)):
        calls.colour(number, slots)
    plan = [[None for _ in range(many)] for _ in range(slots)]
    for (one, gate), slot in zip(calls.calls, calls.colours):
        plan[slot][one] = gate
    return tuple([tuple(row) for row in plan])


def calls_of(rates):
    """Return each pair of gates, in order, as often as its rate."""
    return [(one, gate) for one, row in enumerate(rates) for gate, rate in enumerate(row) for _ in range(rate)]


def has_rates(plan, rates):
    """Tell whether a frame gives each pair of gates just its rate, and no gate out twice in a slot."""
    calls = [(one, gate) for row in plan for one, gate in enumerate(row) if gate is not None]
    fits = [calls.count((one, gate)) == rate for one, row in enumerate(rates) for gate, rate in enumerate(row)]
    taken = [[gate for gate in row if gate is not None] for row in plan]
    # As many calls as the rates have: so none is of gates that the rates don't have.
    whole = len(calls) == sum([sum(row) for row in rates])
    return whole and all(fits) and all([len(set(row)) == len(row) for row in taken])


def slots_of(plan, one, gate):
    """Return a frame's slots in which a pair of gates is served, in order."""
    return [slot for slot, row in enumerate(plan) if row[one] == gate]


def served(plan, one, gate, start, slots):
    """Return how many of so many slots, from a slot on, a pair of gates has when frames go on and on."""
    mine = slots_of(plan, one, gate)
    # Each slot of the pair comes again a frame's length later.
    return sum([(slots - 1 - (slot - start) % len(plan)) // len(plan) + 1 for slot in mine])


def least_served(plan, one, gate, slots):
    """Return the least that a pair of gates has in any so many slots on end."""
    return min([served(plan, one, gate, start, slots) for start in range(len(plan))], default=0)


def longest_wait(plan, one, gate):
    """Return the most slots a cell at the head waits until its slot is over, None where the pair has none."""
    mine = slots_of(plan, one, gate)
    if mine == []:
        return None
    # Behind the last slot comes the first one of the next frame.
    behind = mine[1:] + [mine[0] + len(plan)]
    return max([later - slot for slot, later in zip(mine, behind)])


def too_much(rates, slots):
    """Return ("in" or "out", gate) of the first gate with more than a frame's slots, None for none."""
    left = free_slots(rates, slots)
    many = len(left) // 2
    for place, free in enumerate(left):
        if free < 0:
            return (IN if place < many else OUT, place % many)
    return None


def free_slots(rates, slots):
    """Return how many slots of a frame each gate in has left, then each gate out."""
    at_gates_in = [slots - sum(row) for row in rates]
    at_gates_out = [slots - sum([row[gate] for row in rates]) for gate in range(len(rates))]
    return tuple(at_gates_in + at_gates_out)


def widened(rates, one, gate, much):
    """Return rates with so much more for a pair of gates."""
    found = [list(row) for row in rates]
    found[one][gate] += much
    return [tuple(row) for row in found]


def no_rates(many):
    """Return rates of so many gates that have no slots yet."""
    return [tuple([0 for _ in range(many)]) for _ in range(many)]
