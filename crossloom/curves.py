"""Curves: what may come and what is surely served in any so many slots, and what follows for queues and waits."""

from crossloom.buckets import brought
from crossloom.errors import BadSize


def check_curve(curve):
    """Return a curve, nought first and never falling; BadSize for another."""
    found = tuple(curve)
    if len(found) == 0 or found[0] != 0 or any([after < before for before, after in zip(found, found[1:])]):
        raise BadSize("a row that is no curve")
    return found


def bucket_curve(burst, rate, slots):
    """Return the curve of a burst and a rate for up to so many slots."""
    return tuple([0] + [burst + rate * size for size in range(1, slots + 1)])


def late_curve(wait, rate, slots):
    """Return the curve of a rate after a wait for up to so many slots."""
    return tuple([rate * max(size - wait, 0) for size in range(slots + 1)])


def folded(one, other):
    """Return, for each so many slots, the least sum of one curve's first part and another's rest."""
    sizes = range(min(len(one), len(other)))
    return tuple([min([one[part] + other[size - part] for part in range(size + 1)]) for size in sizes])


def unfolded(one, other):
    """Return, for each so many slots, the most by which one curve, later on, is ahead of another's beginning."""
    if len(other) == 0:
        return ()
    return tuple([max([later - first for later, first in zip(one[size:], other)]) for size in range(len(one))])


def is_under(row, curve):
    """Tell whether in any slots on end a row brings no more than a curve lets by."""
    # Of more slots than it has the curve tells nothing.
    return all([most <= lets for most, lets in zip(tightest(row), curve)])


def most_queue(comes, serves):
    """Return the most that can wait: the most by which what may come is ahead of what is surely served."""
    return max([came - gone for came, gone in zip(comes, serves)], default=0)


def most_wait(comes, serves):
    """Return the most slots a cell can wait, None where the curves don't tell: as long as what came isn't served."""
    longest = 0
    for size, came in enumerate(comes):
        later = size
        while later < len(serves) and serves[later] < came:
            later += 1
        if later >= len(serves):
            return None
        longest = max(longest, later - size)
    return longest


def in_slots_on_end(row, size):
    """Return what a row brings in each so many slots on end."""
    found = [sum(row[:size])]
    for first, last in zip(row, row[size:]):
        found.append(found[-1] + last - first)
    return found


def tightest(row):
    """Return the least curve under which a row is: the most it brings in any so many slots on end."""
    return tuple([max(in_slots_on_end(row, size)) for size in range(len(row) + 1)])


def served_by(row, offers):
    """Return (what goes out, what waits behind) when each slot so much is offered to what came so far."""
    waiting = 0
    out = []
    waits = []
    # Behind its last slot a row brings nothing, and nothing is offered.
    for slot in range(max(len(row), len(offers))):
        waiting = waiting + brought(row, slot)
        sent = min(waiting, brought(offers, slot))
        waiting = waiting - sent
        out.append(sent)
        waits.append(waiting)
    return (tuple(out), tuple(waits))


def surely(offers):
    """Return the most curve that offers surely serve: the least they offer in any so many slots on end."""
    return tuple([min(in_slots_on_end(offers, size)) for size in range(len(offers) + 1)])


def slots_of_cells(row):
    """Return the slot of each cell of a row of counts, in order."""
    return [slot for slot, count in enumerate(row) for _ in range(count)]


def cell_waits(row, out):
    """Return how many slots each cell waits, first come first out, for cells that went out."""
    return tuple([gone - came for came, gone in zip(slots_of_cells(row), slots_of_cells(out))])
