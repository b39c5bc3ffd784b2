"""Points [1], [22] and [30]: throws."""

import random

from crossloom.errors import BadSize
from crossloom.grids import Cube, Grid
from crossloom.throws import Throws, bound, most_away
from tests.every import Case, as_lists

SHAPES = [Grid(3, 3, False), Grid(4, 2, False), Grid(5, 1, False), Grid(3, 3, True), Grid(2, 4, True), Grid(4, 1, True),
          Cube(1), Cube(2), Cube(3)]


def drawn_cells(shape, many, draws):
    """Return cells, (name, node, goal), at drawn nodes, no more at one than it has links, some at their goals."""
    free = [node for node in shape.nodes() for _ in shape.near(node)]
    draws.shuffle(free)
    return tuple((f"cell {number}", node, draws.choice(shape.nodes())) for number, node in enumerate(free[:many]))


def slow_end(shape, node, goal, links):
    """Return the end of the first nearest link from a node that is not among some links."""
    rows = [(shape.far(end, goal), end) for end in shape.near(node) if (node, end) not in links]
    return sorted(rows)[0][1]


class Fields(Case):
    def test_fields(self):
        shape = Grid(2, 2, False)
        cells = (("a", (0, 0), (1, 1)), ("b", (1, 0), (1, 0)), ("c", (0, 0), (0, 1)), ("d", (0, 1), (0, 1)))
        for rows in (cells, as_lists(cells)):
            throws = Throws(shape, rows)
            self.assertIs(throws.shape, shape)
            self.same(([tuple(cell) for cell in throws.cells], list(throws.arrived), throws.slots),
                      ([cells[0], cells[2]], ["b", "d"], 0))

    def test_too_many_at_a_node(self):
        for shape in (Cube(1), Grid(2, 1, False), Grid(2, 1, True)):
            here, there = shape.nodes()
            cells = (("a", here, there), ("b", here, there))
            self.refused(BadSize, Throws, shape, cells)
            self.refused(BadSize, Throws, shape, as_lists(cells))
            self.refused(BadSize, Throws, shape, [("c", there, here)] + [list(cell) for cell in cells])
            # Who is at its goal from the first does not go by any link.
            self.same(len(Throws(shape, (cells[0], ("b", here, here))).cells), 1)
        grid = Grid(3, 3, False)
        corner = tuple((number, (0, 0), (2, 2)) for number in range(3))
        middle = tuple((number, (1, 1), (2, 2)) for number in range(5))
        self.same((len(Throws(grid, corner[:2]).cells), len(Throws(grid, middle[:4]).cells)), (2, 4))
        self.refused(BadSize, Throws, grid, corner)
        self.refused(BadSize, Throws, grid, middle)
        self.refused(BadSize, Throws, grid, middle[:4] + corner)
        # A node without links has room for none that has to go on.
        self.same(Throws(Grid(1, 1, False), (("a", (0, 0), (0, 0)),)).arrived, ["a"])

    def test_no_cells_and_cells_at_their_goals(self):
        for cells in ((), (("a", 1, 1), ("b", 0, 0))):
            throws = Throws(Cube(2), cells)
            self.same((throws.away(), throws.run(0), throws.run(5), throws.slots), (0, 0, 0, 0))
            self.same((throws.throw(), throws.slots, throws.arrived), ((), 1, [cell[0] for cell in cells]))
            self.same(bound(Cube(2), cells), 0)


class Slots(Case):
    def test_worked_by_hand(self):
        grid = Grid(3, 2, False)
        cells = (("a", (0, 0), (2, 0)), ("b", (0, 0), (2, 0)), ("c", (1, 0), (0, 0)))
        throws = Throws(grid, cells)
        self.same(throws.away(), 5)
        # Cell a takes the link to the east, so that b is thrown to the south.
        self.same(throws.throw(), (("a", (1, 0)), ("b", (0, 1)), ("c", (0, 0))))
        self.same((throws.cells, throws.arrived, throws.slots, throws.away()),
                  ([("a", (1, 0), (2, 0)), ("b", (0, 1), (2, 0))], ["c"], 1, 4))
        # From (0, 0) and from (1, 1) it is as far, and the first is taken.
        self.same(throws.throw(), (("a", (2, 0)), ("b", (0, 0))))
        self.same((list(throws.arrived), throws.run(9), throws.arrived, throws.slots), (["c", "a"], 2, ["c", "a", "b"], 4))

    def test_the_first_of_as_near(self):
        throws = Throws(Grid(3, 3, False), ())
        self.same(throws.choose((0, 0), (2, 2), {}), (0, 1))
        self.same(throws.choose((0, 0), (2, 2), {((0, 0), (0, 1)): True}), (1, 0))
        self.same(throws.choose((0, 0), (2, 2), [((0, 0), (0, 1)), ((0, 1), (1, 1))]), (1, 0))
        self.same(throws.choose((1, 1), (0, 1), (((1, 1), (0, 1)),)), (1, 0))
        self.same(throws.choose((0, 0), (2, 2), {((0, 0), (0, 1)): True, ((0, 0), (1, 0)): True}), None)
        # A link taken the other way is free.
        self.same(throws.choose((0, 0), (0, 2), [((0, 1), (0, 0))]), (0, 1))
        cube = Throws(Cube(3), ())
        self.same([cube.choose(0, 6, ()), cube.choose(0, 6, [(0, 2)]), cube.choose(0, 6, [(0, 2), (0, 4)])], [2, 4, 1])
        # Told by their ends alone.
        self.same([cube.choose(0, 6, [2]), throws.choose((0, 0), (2, 2), [[0, 1]])], [4, (1, 0)])

    def test_slot_by_slot_by_the_words(self):
        draws = random.Random(71)
        for number in range(180):
            shape = SHAPES[number % len(SHAPES)]
            cells = drawn_cells(shape, draws.randint(0, 12), draws)
            throws = Throws(shape, cells if number % 2 else as_lists(cells))
            left = [cell for cell in cells if cell[1] != cell[2]]
            arrived = [name for name, node, goal in cells if node == goal]
            for slot in range(bound(shape, cells) + 1):
                self.same(throws.away(), sum(shape.far(node, goal) for _, node, goal in left))
                links, moved = [], []
                for name, node, goal in left:
                    end = slow_end(shape, node, goal, links)
                    links.append((node, end))
                    moved.append((name, end, goal))
                self.same(throws.throw(), tuple((name, end) for name, end, _ in moved))
                # Each goes over a link of its own, and the oldest comes nearer.
                self.assertEqual(len(set(links)), len(left))
                self.assertTrue(all(link in shape.links() for link in links))
                if left:
                    self.assertEqual(shape.far(moved[0][1], left[0][2]), shape.far(left[0][1], left[0][2]) - 1)
                arrived += [name for name, end, goal in moved if end == goal]
                left = [cell for cell in moved if cell[1] != cell[2]]
                self.same((throws.cells, throws.arrived, throws.slots), (left, arrived, slot + 1))
            self.same((left, sorted(throws.arrived)), ([], sorted(cell[0] for cell in cells)))

    def test_handed_in_stays_as_it_is(self):
        cells = [["a", [0, 0], [2, 1]], ["b", [1, 0], [0, 0]]]
        throws = Throws(Grid(3, 2, False), cells)
        throws.run(9)
        self.same(cells, [["a", [0, 0], [2, 1]], ["b", [1, 0], [0, 0]]])


class Runs(Case):
    def test_how_many_slots(self):
        cells = (("a", (0, 0), (3, 0)),)
        for most in range(6):
            throws = Throws(Grid(4, 1, False), cells)
            self.same((throws.run(most), throws.slots), (3 if most >= 3 else None, min(most, 3)))
        throws = Throws(Grid(4, 1, False), cells)
        self.same([throws.run(2), throws.away(), throws.run(1), throws.run(0)], [None, 1, 1, 0])

    def test_all_arrive_within_the_told_slots(self):
        draws = random.Random(72)
        for number in range(150):
            shape = SHAPES[number % len(SHAPES)]
            cells = drawn_cells(shape, draws.randint(0, 24), draws)
            throws = Throws(shape, cells)
            slots = throws.run(self.both(lambda rows: bound(shape, rows), cells))
            self.assertIsNotNone(slots)
            self.same((throws.away(), throws.slots), (0, slots))

    def test_most_away(self):
        for shape in SHAPES:
            self.same(most_away(shape), max(shape.far(one, other) for one in shape.nodes() for other in shape.nodes()))
        self.same([most_away(Grid(1, 1, True)), most_away(Grid(5, 2, False)), most_away(Cube(4))], [0, 5, 4])
