"""Throws: nodes without rooms, where each cell must move in each slot, the oldest to where it is nearer."""

from crossloom.errors import BadSize
from crossloom.grids import widest
from crossloom.searches import fixed


class Throws:
    """A shape of nodes, cells, (name, node, goal), oldest first, and what has arrived."""

    def __init__(self, shape, cells):
        self.shape = shape
        self.arrived = [name for name, node, goal in cells if fixed(node) == fixed(goal)]
        self.cells = left_of(cells)
        self.slots = 0
        for _, node, _ in self.cells:
            if len([1 for cell in self.cells if cell[1] == node]) > len(shape.near(node)):
                raise BadSize("more cells at a node than it has links")

    def choose(self, node, goal, taken):
        """Return the free link's end that is nearest to a goal, the first of as near."""
        # What is taken is told by links, or by their ends alone: all of them begin at the node.
        held = fixed(taken)
        ends = [end for end in self.shape.near(node) if (fixed(node), end) not in held and end not in held]
        return min(ends, key=lambda end: self.shape.far(end, goal), default=None)

    def throw(self):
        """Throw all cells on, the oldest choosing first; return (name, node it came to)."""
        taken = {}
        moved = []
        for name, node, goal in self.cells:
            end = self.choose(node, goal, taken)
            taken[(node, end)] = True
            moved.append((name, end, goal))
        self.arrived.extend([name for name, end, goal in moved if end == goal])
        self.cells = left_of(moved)
        self.slots += 1
        return tuple([(name, end) for name, end, _ in moved])

    def run(self, most):
        """Go on till all have arrived; return how many slots it took, None past so many."""
        slots = 0
        while self.cells != []:
            if slots >= most:
                return None
            self.throw()
            slots += 1
        return slots

    def away(self):
        """Return how many steps all cells that are left have to go at least, in all."""
        return sum([self.shape.far(node, goal) for _, node, goal in self.cells])


def left_of(cells):
    """Return the cells, (name, node, goal), that are not at their goals."""
    rows = [(name, fixed(node), fixed(goal)) for name, node, goal in cells]
    return [row for row in rows if row[1] != row[2]]


def bound(shape, cells):
    """Return slots in which all cells have surely arrived: each oldest one left goes straight to its goal."""
    return len(left_of(cells)) * most_away(shape)


def most_away(shape):
    """Return the most steps between any two nodes of a shape."""
    return widest(shape)
