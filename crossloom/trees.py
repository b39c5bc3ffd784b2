"""Trees: fat trees, in which cells go up as far as they must, by any way, and down by the only one."""

from crossloom.clos import assigned
from crossloom.errors import BadSize

LEAF = "leaf"
SWITCH = "switch"
TOP = "top"


class Tree:
    """Leaves under so many switches each, each switch under as many top ones as it has ways up."""

    def __init__(self, leaves, switches, tops):
        if leaves < 1 or switches < 1 or tops < 1:
            raise BadSize("a tree has one of each at least")
        self.leaves = leaves
        self.switches = switches
        self.tops = tops

    def size(self):
        """Return how many leaves there are."""
        return self.leaves * self.switches

    def switch(self, leaf):
        """Return a leaf's switch."""
        return leaf // self.leaves

    def way(self, one, other, top):
        """Return the links from a leaf to another, by a top one where they have unlike switches."""
        below = (SWITCH, self.switch(one))
        goal = (SWITCH, self.switch(other))
        up = ((LEAF, one), below)
        down = (goal, (LEAF, other))
        if below == goal:
            return (up, down)
        return (up, (below, (TOP, top)), ((TOP, top), goal), down)

    def loads(self, pairs, tops):
        """Return a table of links to how many ways go over them, for a pairing and the tops of its ways."""
        found = {}
        for one, (other, top) in enumerate(zip(pairs, tops)):
            if other is not None:
                for link in self.way(one, other, top):
                    found[link] = found.get(link, 0) + 1
        return found

    def most_load(self, pairs, tops):
        """Return the most ways over any link, nought for none."""
        return max(self.loads(pairs, tops).values(), default=0)

    def spread(self, pairs):
        """Return tops, nought for none, by which each link has one way where there are as many tops as leaves."""
        found = [0 for _ in pairs]
        callers = [one for one, other in enumerate(pairs) if other is not None]
        for one, number in zip(callers, assigned(pairs, self.leaves)):
            found[one] = number % self.tops
        return tuple(found)

    def by_goal(self, pairs):
        """Return tops, nought for none, told by the goals: the goal's place under its switch, gone round the tops."""
        return tuple([0 if other is None else other % self.leaves % self.tops for other in pairs])

    def least_load(self, pairs):
        """Return a load that no tops whatever can be under: ways out of, or into, a switch by the tops."""
        ends = [(self.switch(one), self.switch(other)) for one, other in enumerate(pairs) if other is not None]
        across = [(below, goal) for below, goal in ends if below != goal]
        most = 0
        for number in range(self.switches):
            leaving = len([1 for below, _ in across if below == number])
            coming = len([1 for _, goal in across if goal == number])
            most = max(most, leaving, coming)
        # Rounded up: some top has no less than its part.
        return (most + self.tops - 1) // self.tops


def has_room(tree):
    """Tell whether a tree has as many tops as a switch has leaves."""
    return tree.tops >= tree.leaves
