"""Points [1], [16] and [30]: grids and cubes."""

import itertools

from crossloom.errors import BadSize
from crossloom.grids import Cube, Grid, cut_links, gray, steps_between, widest
from tests.every import Case, as_lists

MOVES = {"east": (1, 0), "west": (-1, 0), "south": (0, 1), "north": (0, -1)}


def all_grids():
    """Return all grids of up to four by four, round or not."""
    return [Grid(wide, high, round_ends) for wide in range(1, 5) for high in range(1, 5)
            for round_ends in (False, True)]


def all_cubes():
    """Return all cubes of up to three ways."""
    return [Cube(ways) for ways in range(1, 4)]


def slow_step(grid, node, way):
    """Return the node one step on, made without the program."""
    column, row = (place + move for place, move in zip(node, MOVES[way]))
    if grid.round_ends:
        column, row = (column + grid.wide) % grid.wide, (row + grid.high) % grid.high
    return (column, row) if column in range(grid.wide) and row in range(grid.high) else None


def slow_near(shape, node):
    """Return the set of other nodes one step from a node, made without the program."""
    if isinstance(shape, Cube):
        return {other for other in range(2 ** shape.ways) if bin(other ^ node).count("1") == 1}
    return {slow_step(shape, node, way) for way in MOVES} - {None, node}


def spread_from(shape, node):
    """Return a table of nodes to their steps from a node, by going on from all reached at once."""
    found = {node: 0}
    edge = {node}
    while edge:
        edge = {other for one in edge for other in slow_near(shape, one)} - set(found)
        found.update({other: max(found.values()) + 1 for other in edge})
    return found


class Apart:
    """A shape of two pieces: a ring of three nodes, and two that are joined."""

    def nodes(self):
        return (0, 1, 2, 8, 9)

    def near(self, node):
        return {0: (1, 2), 1: (0, 2), 2: (0, 1), 8: (9,), 9: (8,)}[node]


class Grids(Case):
    def test_fields_and_what_can_not_be(self):
        grid = Grid(3, 2, True)
        self.same((grid.wide, grid.high, grid.round_ends), (3, 2, True))
        self.same(Grid(1, 4, False).round_ends, False)
        for wide, high in itertools.product((-1, 0, 1), repeat=2):
            if wide < 1 or high < 1:
                for round_ends in (False, True):
                    self.refused(BadSize, Grid, wide, high, round_ends)

    def test_nodes_row_by_row(self):
        self.same(Grid(2, 3, False).nodes(), ((0, 0), (1, 0), (0, 1), (1, 1), (0, 2), (1, 2)))
        self.same(Grid(1, 1, True).nodes(), ((0, 0),))
        for grid in all_grids():
            wanted = [(column, row) for column in range(grid.wide) for row in range(grid.high)]
            self.same(grid.nodes(), tuple(sorted(wanted, key=lambda node: node[::-1])))

    def test_steps_and_nodes_near(self):
        for grid in all_grids():
            for node in grid.nodes():
                for way in MOVES:
                    self.same(grid.step(node, way), slow_step(grid, node, way))
                    self.same(grid.step(list(node), way), slow_step(grid, node, way))
                self.same(self.both(grid.near, node), tuple(sorted(slow_near(grid, node))))

    def test_steps_worked_by_hand(self):
        grid = Grid(3, 2, False)
        self.same([grid.step((1, 0), way) for way in ("east", "west", "south", "north")],
                  [(2, 0), (0, 0), (1, 1), None])
        self.same(grid.near((0, 0)), ((0, 1), (1, 0)))
        ring = Grid(3, 2, True)
        self.same([ring.step((2, 1), way) for way in ("east", "west", "south", "north")],
                  [(0, 1), (1, 1), (2, 0), (2, 0)])
        self.same(ring.near((0, 0)), ((0, 1), (1, 0), (2, 0)))
        one = Grid(1, 1, True)
        self.same([one.step((0, 0), "east"), one.near((0, 0)), one.links()], [(0, 0), (), ()])
        self.same([Grid(1, 1, False).step((0, 0), "south"), Grid(1, 1, False).near((0, 0))], [None, ()])


class Cubes(Case):
    def test_fields_and_what_can_not_be(self):
        self.same(Cube(3).ways, 3)
        for ways in (0, -1, -5):
            self.refused(BadSize, Cube, ways)

    def test_nodes_steps_and_nodes_near(self):
        for cube in all_cubes():
            self.same(cube.nodes(), tuple(range(2 ** cube.ways)))
            for node in cube.nodes():
                self.same(cube.near(node), tuple(sorted(slow_near(cube, node))))
                figures = format(node, f"0{cube.ways}b")
                for way in range(cube.ways):
                    other = figures[:way] + str(1 - int(figures[way])) + figures[way + 1:]
                    self.same(cube.step(node, way), int(other, 2))

    def test_worked_by_hand(self):
        self.same([Cube(3).step(1, way) for way in range(3)], [5, 3, 0])
        self.same(Cube(3).near(5), (1, 4, 7))
        self.same([Cube(1).nodes(), Cube(1).near(0), Cube(1).links()], [(0, 1), (1,), ((0, 1), (1, 0))])
        self.same(Cube(4).far(0, 13), 3)


class Shapes(Case):
    def test_links_in_order(self):
        for shape in all_grids() + all_cubes():
            wanted = {(node, other) for node in shape.nodes() for other in slow_near(shape, node)}
            self.same(shape.links(), tuple(sorted(wanted)))
        self.same(Grid(2, 1, True).links(), (((0, 0), (1, 0)), ((1, 0), (0, 0))))

    def test_distances_against_a_spreading_from_each_node(self):
        for shape in all_grids() + all_cubes():
            most = 0
            for node in shape.nodes():
                steps = spread_from(shape, node)
                self.assertEqual(set(steps), set(shape.nodes()))
                for other, count in steps.items():
                    self.same(shape.far(node, other), count)
                    self.same(steps_between(shape, node, other), count)
                most = max(most, max(steps.values()))
            self.same(widest(shape), most)

    def test_no_way(self):
        self.same([steps_between(Apart(), 0, node) for node in (0, 1, 2, 8)], [0, 1, 1, None])
        self.same(steps_between(Apart(), 9, 8), 1)
        self.same(steps_between(Grid(2, 2, False), (0, 0), (2, 0)), None)
        self.same(self.both(lambda rows: steps_between(Grid(3, 1, False), rows[0], rows[1]), ((2, 0), (0, 0))), 2)

    def test_widest_worked_by_hand(self):
        self.same([widest(shape) for shape in (Grid(1, 1, False), Grid(4, 3, False), Grid(4, 3, True), Cube(3))],
                  [0, 5, 3, 3])

    def test_links_that_lead_out(self):
        for shape in (Grid(3, 2, False), Grid(2, 3, True), Grid(3, 3, True), Cube(3)):
            nodes = shape.nodes()
            for size in (0, 1, 2, 4, len(nodes)):
                for side in itertools.islice(itertools.combinations(nodes, size), 0, None, 3):
                    wanted = sum(other not in side for node in side for other in slow_near(shape, node))
                    self.same(self.both(lambda row: cut_links(shape, row), side), wanted)
        self.same(cut_links(Cube(2), (1, 1)), 2)
        self.same(cut_links(Grid(4, 4, True), as_lists(Grid(4, 2, True).nodes())), 8)


class Gray(Case):
    def test_step_by_step_and_round(self):
        for ways in range(1, 8):
            found = gray(ways)
            self.assertIsInstance(found, tuple)
            self.assertEqual(sorted(found), list(range(2 ** ways)))
            for place in range(len(found)):
                self.assertEqual(bin(found[place] ^ found[place - 1]).count("1"), 1)

    def test_doubled_by_the_reversed(self):
        self.same([gray(1), gray(2), gray(3)], [(0, 1), (0, 1, 3, 2), (0, 1, 3, 2, 6, 7, 5, 4)])
        for ways in range(1, 8):
            half = gray(ways)
            self.same(gray(ways + 1), half + tuple(len(half) + node for node in half[::-1]))
