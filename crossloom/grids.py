"""Grids: nodes in rows and columns, round or not, and cubes, with the links between them."""

from crossloom.errors import BadSize
from crossloom.pairings import figures, power_of_two
from crossloom.searches import fixed, steps_from

# How a step changes the column and the row.
STEPS = {"east": (1, 0), "west": (-1, 0), "south": (0, 1), "north": (0, -1)}


class Grid:
    """So many columns and rows, and whether the ends are joined."""

    def __init__(self, wide, high, round_ends):
        if wide < 1 or high < 1:
            raise BadSize("a grid without a node")
        self.wide = wide
        self.high = high
        self.round_ends = round_ends

    def nodes(self):
        """Return all (column, row), row by row."""
        return tuple([(column, row) for row in range(self.high) for column in range(self.wide)])

    def step(self, node, way):
        """Return the node one step on, by "east", "west", "south" or "north"; None past an end."""
        column = node[0] + STEPS[way][0]
        row = node[1] + STEPS[way][1]
        if self.round_ends:
            return (column % self.wide, row % self.high)
        if not 0 <= column < self.wide or not 0 <= row < self.high:
            return None
        return (column, row)

    def near(self, node):
        """Return the other nodes one step from a node, each once, in order."""
        ends = [self.step(node, way) for way in STEPS]
        return tuple(sorted(set([end for end in ends if end is not None and end != fixed(node)])))

    def links(self):
        """Return all (node, node one step on), in order."""
        return links_between(self)

    def far(self, one, other):
        """Return how many steps there are between two nodes at least."""
        across = apart_by(one[0], other[0], self.wide, self.round_ends)
        return across + apart_by(one[1], other[1], self.high, self.round_ends)


def apart_by(one, other, many, round_ends):
    """Return how many steps there are between two places of so many in a row, or in a ring."""
    straight = abs(one - other)
    return min(straight, many - straight) if round_ends else straight


class Cube:
    """A cube of so many ways: nodes by numbers, links where one figure is another."""

    def __init__(self, ways):
        if ways < 1:
            raise BadSize("a cube without a way")
        self.ways = ways

    def nodes(self):
        """Return all nodes."""
        return tuple(range(power_of_two(self.ways)))

    def step(self, node, way):
        """Return the node across one way, nought for the highest figure."""
        return node ^ power_of_two(self.ways - way - 1)

    def near(self, node):
        """Return the nodes one step from a node, in order."""
        return tuple(sorted([self.step(node, way) for way in range(self.ways)]))

    def links(self):
        """Return all (node, node one step on), in order."""
        return links_between(self)

    def far(self, one, other):
        """Return how many steps there are between two nodes."""
        return sum(figures(one ^ other, self.ways))


def links_between(shape):
    """Return all (node, node one step on) of a shape, in order."""
    return tuple(sorted([(node, other) for node in shape.nodes() for other in shape.near(node)]))


def gray(ways):
    """Return the nodes of a cube one behind another, each one step from the next, the last from the first."""
    found = [0, 1]
    for way in range(1, ways):
        found = found + [node + power_of_two(way) for node in found[::-1]]
    return tuple(found)


def widest(shape):
    """Return the most steps between any two nodes."""
    nodes = shape.nodes()
    return max([shape.far(one, other) for one in nodes for other in nodes], default=0)


def steps_between(shape, one, other):
    """Return the least steps between two nodes by going on from one, None where there is no way."""
    return steps_from(lambda node: shape.near(node), fixed(one)).get(fixed(other))


def cut_links(shape, side):
    """Return how many links lead out of some nodes."""
    inside = fixed(side)
    return len([1 for node, other in shape.links() if node in inside and other not in inside])
