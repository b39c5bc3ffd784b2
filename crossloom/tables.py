"""Tables: a fabric's counts at a glance: elements, stages and joints of each kind, and which is least."""

from crossloom.benes import least_elements, size_of
from crossloom.errors import BadSize
from crossloom.pairings import logarithm
from crossloom.sorters import bitonic, layers, odd_even

CROSSBAR = "crossbar"
ROWS = "rows"


def joints_of_crossbar(many):
    """Return how many joints a crossbar of so many gates has; BadSize below one."""
    if many < 1:
        raise BadSize("a crossbar without a gate")
    return many * many


def joints_of_rows(middle, gates, switches):
    """Return how many joints three rows of switches have: in, middle and out."""
    if middle < 1 or gates < 1 or switches < 1:
        raise BadSize("three rows have one of each at least")
    on_a_side = switches * gates * middle
    return on_a_side + middle * switches * switches + on_a_side


def least_joints(many, moving):
    """Return (joints, gates a switch) of the least three rows of so many gates, the fewest gates of alike ones."""
    if many < 1:
        raise BadSize("three rows without a gate")
    found = []
    for gates in range(1, many + 1):
        if many % gates == 0:
            middle = gates if moving else 2 * gates - 1
            found.append((joints_of_rows(middle, gates, many // gates), gates))
    return min(found)


def elements_of_banyan(many):
    """Return (stages, elements) of a banyan of so many gates."""
    count = logarithm(many)
    return (count, count * (many // 2))


def comparers(many):
    """Return ((pairs, layers) of the odd-even sorter, (pairs, layers) of the bitonic one) of so many wires."""
    return tuple([(len(net), len(layers(net))) for net in (odd_even(many), bitonic(many))])


def glance(many):
    """Return (crossbar, least rows unmoved, least rows moved, banyan, size_of, least_elements, comparers) of gates."""
    joints = (joints_of_crossbar(many), least_joints(many, False), least_joints(many, True))
    return joints + (elements_of_banyan(many), size_of(many), least_elements(many), comparers(many))


def cheaper(many):
    """Return "crossbar" or "rows", whichever has fewer joints where no call is moved, the crossbar for alike."""
    return ROWS if least_joints(many, False)[0] < joints_of_crossbar(many) else CROSSBAR
