"""Points [1] and [17]: ways, what waits for what, and ways up and down."""

import itertools
import random

from crossloom.errors import BadPaper, NoSuch
from crossloom.grids import Cube, Grid
from crossloom.ways import (
    all_ways, back_from, by_columns, by_figures, check_numbers, check_ring, goes_up, is_up_and_down, levels, links_of,
    numbered, ring_of, up_and_down, waits)
from tests.every import Case, as_lists
from tests.test_grids import all_cubes, all_grids, spread_from


def has_ring(pairs):
    """Tell whether links wait in a ring: by taking away what waits for nothing, again and again."""
    left = set(pairs)
    while True:
        stuck = {pair for pair in left if pair[1] in {before for before, _ in left}}
        if stuck == left:
            return bool(left)
        left = stuck


def all_rings(pairs, size):
    """Return all rings of so many unlike links, each told from its first link on, in order."""
    names = sorted({name for pair in pairs for name in pair})
    rings = [row for row in itertools.permutations(names, size) if row[0] == min(row)]
    return [row for row in rings if all((row[place - 1], row[place]) in pairs for place in range(size))]


def some_waits():
    """Return rows of what waits for what: all of two names, many of three, and drawn ones of up to six."""
    found = [()]
    for many in (1, 2, 3):
        pairs = list(itertools.product(range(many), repeat=2))
        rows = [row for size in range(1, len(pairs) + 1) for row in itertools.combinations(pairs, size)]
        found += rows[::1 if many < 3 else 3]
    draws = random.Random(31)
    for number in range(150):
        many = 4 + number % 3
        # Of some rows nearly all pairs rise in a drawn order, so that many wait in no ring.
        order = draws.sample(range(many), many)
        pairs = [(order[low], order[high]) for low, high in itertools.combinations(range(many), 2)]
        pairs += list(itertools.product(range(many), repeat=2)) if number % 2 else [pairs[-1][::-1]]
        found.append(tuple(draws.sample(pairs, draws.randint(2, len(pairs) // 2 + 1))))
    return found


def drawn_links():
    """Return tables of neighbours, each both ways, some in several pieces."""
    draws = random.Random(32)
    found = [{0: ()}, {"a": ("b",), "b": ("a",)}]
    for number in range(80):
        many = 2 + number % 8
        near = {node: [] for node in range(many)}
        for one, other in itertools.combinations(range(many), 2):
            if draws.random() < (0.2, 0.3, 0.6)[number % 3]:
                near[one].append(other)
                near[other].append(one)
        for row in near.values():
            draws.shuffle(row)
        found.append({node: draws.choice((list, tuple))(row) for node, row in near.items()})
    return found


def slow_levels(near, root):
    """Return the steps of all nodes from a root, made without the program."""
    found = {root: 0}
    for step in range(len(near)):
        for node in [node for node, count in found.items() if count == step]:
            for other in near[node]:
                found.setdefault(other, step + 1)
    return found


def ups_of(near, root, way):
    """Return, for each link of a way, whether it goes up."""
    steps = slow_levels(near, root)
    return [steps[other] < steps[one] or steps[other] == steps[one] and other < one
            for one, other in zip(way, way[1:])]


def slow_up_and_down(near, root, one, other):
    """Return the first in order of the shortest ways of links up, then down: all ways tried; None for none."""
    ways = [(one,)]
    while ways:
        found = sorted(way for way in ways if way[-1] == other)
        if found:
            return found[0]
        ways = [way + (node,) for way in ways for node in near[way[-1]] if node not in way]
        ways = [way for way in ways if ups_of(near, root, way) == sorted(ups_of(near, root, way), reverse=True)]
    return None


class Routes(Case):
    def test_along_rows_and_columns(self):
        for grid in all_grids():
            for one, other in itertools.product(grid.nodes(), repeat=2):
                way = self.both(lambda rows: by_columns(grid, rows[0], rows[1]), (one, other))
                self.assertEqual((way[0], way[-1], len(way)), (one, other, spread_from(grid, one)[other] + 1))
                steps = [self.step_between(grid, *link) for link in zip(way, way[1:])]
                # Columns change first, then rows, and no step goes the other way than the one ahead of it.
                across = [step for step in steps if step in ("east", "west")]
                self.assertEqual(steps[:len(across)], across)
                self.assertLessEqual(len(set(across)), 1)
                self.assertLessEqual(len(set(steps[len(across):])), 1)
                self.forward(grid, one, other, steps)

    def step_between(self, grid, one, other):
        """Return the step between two nodes, forward where both ways lead there."""
        return [way for way in ("east", "south", "west", "north") if grid.step(one, way) == other][0]

    def forward(self, grid, one, other, steps):
        if grid.round_ends:
            for place, many, ahead in ((0, grid.wide, "east"), (1, grid.high, "south")):
                if (other[place] - one[place]) * 2 % (2 * many) == many:
                    self.assertEqual(steps.count(ahead) * 2, many)

    def test_along_rows_and_columns_worked_by_hand(self):
        self.same(by_columns(Grid(4, 3, False), (3, 0), (1, 2)), ((3, 0), (2, 0), (1, 0), (1, 1), (1, 2)))
        self.same(by_columns(Grid(4, 4, True), (3, 3), (1, 0)), ((3, 3), (0, 3), (1, 3), (1, 0)))
        self.same(by_columns(Grid(4, 4, True), (1, 1), (3, 3)), ((1, 1), (2, 1), (3, 1), (3, 2), (3, 3)))
        self.same(by_columns(Grid(5, 1, True), (1, 0), (4, 0)), ((1, 0), (0, 0), (4, 0)))
        self.same(by_columns(Grid(1, 1, True), (0, 0), (0, 0)), ((0, 0),))

    def test_by_figures(self):
        for cube in all_cubes():
            for one, other in itertools.product(cube.nodes(), repeat=2):
                way = by_figures(cube, one, other)
                changed = [before ^ after for before, after in zip(way, way[1:])]
                self.assertEqual((way[0], way[-1], sum(changed)), (one, other, one ^ other))
                self.assertEqual(changed, sorted(changed, reverse=True))
                self.assertEqual(len(changed), spread_from(cube, one)[other])
                self.assertIsInstance(way, tuple)
        self.same([by_figures(Cube(3), 1, 6), by_figures(Cube(3), 5, 5)], [(1, 5, 7, 6), (5,)])

    def test_all_ways(self):
        found = all_ways(Grid(2, 1, False), by_columns)
        self.same(found, (((0, 0), (1, 0)), ((1, 0), (0, 0))))
        self.same(all_ways(Grid(1, 1, True), by_columns), ())
        self.same(all_ways(Cube(1), lambda cube, one, other: [one, other]), ((0, 1), (1, 0)))
        found = all_ways(Cube(3), by_figures)
        self.assertEqual(sorted((way[0], way[-1]) for way in found), list(itertools.permutations(range(8), 2)))

    def test_links_of_ways(self):
        self.same(self.both(links_of, ("a", "b", "c")), (("a", "b"), ("b", "c")))
        self.same(self.both(links_of, ((0, 0), (1, 0))), (((0, 0), (1, 0)),))
        self.same([links_of(()), links_of((3,)), links_of([[0, 1]])], [(), (), ()])


class Waiting(Case):
    def test_each_once_in_order(self):
        ways = ((2, 0, 1), (0, 1, 2, 3), (), (5,), (2, 3), (0, 1, 2))
        found = (((0, 1), (1, 2)), ((1, 2), (2, 3)), ((2, 0), (0, 1)))
        self.same(self.both(waits, ways), found)
        self.same([waits(()), waits(((1, 2),))], [(), ()])
        ways = (((0, 0), (1, 0), (1, 1)),)
        self.same(self.both(waits, ways), ((((0, 0), (1, 0)), ((1, 0), (1, 1))),))

    def test_of_all_ways(self):
        for shape, route in [(grid, by_columns) for grid in all_grids()] + [(cube, by_figures) for cube in all_cubes()]:
            ways = all_ways(shape, route)
            wanted = {((one, here), (here, other)) for way in ways for one, here, other in zip(way, way[1:], way[2:])}
            self.same(waits(ways), tuple(sorted(wanted)))

    def test_rows_then_columns_wait_in_a_ring_just_where_a_round_of_four_is(self):
        for grid in all_grids():
            pairs = waits(all_ways(grid, by_columns))
            ring = grid.round_ends and max(grid.wide, grid.high) == 4
            self.same(numbered(pairs) is None, ring)
            self.same(ring_of(pairs) is not None, ring)
        for cube in all_cubes():
            self.assertIsNotNone(numbered(waits(all_ways(cube, by_figures))))


class Papers(Case):
    def test_numbers_rise_just_where_there_is_no_ring(self):
        rings = 0
        for pairs in some_waits():
            numbers = self.both(numbered, pairs)
            ring = self.both(ring_of, pairs)
            rings += has_ring(pairs)
            if has_ring(pairs):
                self.assertIsNone(numbers)
                self.same(self.both(lambda rows: check_ring(rows[0], rows[1]), (pairs, ring)), True)
            else:
                self.assertIsNone(ring)
                self.assertEqual(set(numbers), {name for pair in pairs for name in pair})
                self.assertTrue(all(numbers[before] < numbers[after] for before, after in pairs))
                self.same(self.both(lambda rows: check_numbers(rows, numbers), pairs), True)
        self.assertTrue(50 < rings < len(some_waits()) - 50)

    def test_a_ring_is_a_shortest_one_told_from_its_first_link_on(self):
        for pairs in some_waits():
            if has_ring(pairs):
                rings = next(rows for rows in (all_rings(pairs, size) for size in itertools.count(1)) if rows)
                self.same(ring_of(pairs), rings[0])

    def test_rings_of_links(self):
        pairs = waits(all_ways(Grid(4, 1, True), by_columns))
        self.same(ring_of(pairs), tuple(((one, 0), ((one + 1) % 4, 0)) for one in range(4)))
        self.same(self.both(lambda rows: check_ring(rows[0], rows[1]), (pairs, ring_of(pairs))), True)
        self.same(self.both(numbered, pairs), None)
        pairs = ((((0, 0), (1, 0)), ((1, 0), (1, 1))),)
        self.same(self.both(numbered, pairs), {((0, 0), (1, 0)): 0, ((1, 0), (1, 1)): 1})
        self.same(self.both(ring_of, pairs), None)
        self.same(ring_of((("c", "b"), ("b", "a"), ("a", "c"), ("b", "c"))), ("b", "c"))
        self.same(ring_of(((7, 7), (1, 2), (2, 1))), (7,))
        self.same([ring_of(()), numbered(()), check_numbers((), {}), check_numbers([], {1: 2})], [None, {}, True, True])

    def test_papers_of_numbers(self):
        pairs = ((("a", "b"), ("b", "c")), (("b", "c"), ("c", "a")))
        names = [("a", "b"), ("b", "c"), ("c", "a")]
        for row in itertools.product((None, -1, 0, 1, 5), repeat=3):
            numbers = {name: number for name, number in zip(names, row) if number is not None}
            if None not in row and row[0] < row[1] < row[2]:
                self.same(self.both(lambda rows: check_numbers(rows, numbers), pairs), True)
            else:
                self.refused(BadPaper, check_numbers, pairs, numbers)
                self.refused(BadPaper, check_numbers, [list(pair) for pair in pairs], numbers)

    def test_papers_of_rings(self):
        pairs = ((0, 1), (1, 0), (1, 2), (2, 0), (3, 3))
        for size in range(5):
            for ring in itertools.product(range(5), repeat=size):
                if size > 0 and all((ring[place - 1], ring[place]) in pairs for place in range(size)):
                    self.same(self.both(lambda rows: check_ring(rows[0], rows[1]), (pairs, ring)), True)
                else:
                    self.refused(BadPaper, check_ring, pairs, ring)
                    self.refused(BadPaper, check_ring, as_lists(pairs), list(ring))
        self.refused(BadPaper, check_ring, (), ())

    def test_back_from(self):
        came = {"a": None, "b": "a", "c": "b", "d": "a"}
        self.same([back_from(came, last) for last in "abcd"], [("a",), ("a", "b"), ("a", "b", "c"), ("a", "d")])
        self.same(came, {"a": None, "b": "a", "c": "b", "d": "a"})


class UpAndDown(Case):
    def test_levels(self):
        for near in drawn_links():
            for root in near:
                self.assertEqual(levels(near, root), slow_levels(near, root))
        self.same(levels({0: [1], 1: [0, 2], 2: [1], 9: []}, 2), {2: 0, 1: 1, 0: 2})

    def test_goes_up(self):
        found = {"a": 0, "b": 1, "c": 1, "d": 2}
        for one, other in itertools.permutations(found, 2):
            wanted = found[other] < found[one] or found[other] == found[one] and other < one
            self.same(goes_up(found, one, other), wanted)
        self.same([goes_up({5: 1, 3: 1}, 5, 3), goes_up({5: 1, 3: 1}, 3, 5), goes_up({5: 0, 3: 1}, 3, 5)],
                  [True, False, True])

    def test_between_any_two_nodes_the_first_of_the_shortest(self):
        told, longer = 0, 0
        for near in drawn_links():
            root = min(near)
            steps = slow_levels(near, root)
            for one, other in itertools.product(near, repeat=2):
                if one in steps and other in steps:
                    way = up_and_down(near, root, one, other)
                    self.same(way, slow_up_and_down(near, root, one, other))
                    self.same(self.both(lambda row: is_up_and_down(near, root, row), way), True)
                    told += 1
                    longer += len(way) - 1 > slow_levels(near, one)[other]
                elif one != other:
                    self.refused(NoSuch, up_and_down, near, root, one, other)
        self.assertTrue(told > 500 and longer > 10)

    def test_worked_by_hand(self):
        # A ring of five: nodes 2 and 3 are two steps from the root, and the link from 3 to 2 goes up.
        near = {0: (1, 4), 1: (2, 0), 2: (3, 1), 3: (4, 2), 4: (0, 3)}
        self.same(up_and_down(near, 0, 3, 1), (3, 2, 1))
        self.same(up_and_down(near, 0, 1, 3), (1, 2, 3))
        self.same(up_and_down(near, 0, 4, 2), (4, 0, 1, 2))
        self.same(up_and_down(near, 0, 2, 4), (2, 1, 0, 4))
        self.same(up_and_down(near, 0, 2, 2), (2,))
        self.same([is_up_and_down(near, 0, way) for way in ((4, 3, 2), (2, 3, 4), (4, 0, 1, 2), (2, 0), (2,), ())],
                  [False, False, True, False, True, True])

    def test_no_way(self):
        near = {0: [1], 1: [0], 2: [3], 3: [2]}
        for one, other in ((0, 2), (2, 0), (3, 2), (0, 7), (7, 0), (7, 7)):
            self.refused(NoSuch, up_and_down, near, 0, one, other)
        self.same([is_up_and_down(near, 0, way) for way in ((0, 1), (2, 3), (0, 2), (0, 7))],
                  [True, False, False, False])

    def test_just_the_ways_that_go_up_and_then_down(self):
        for near in drawn_links()[:40]:
            root = max(near)
            steps = slow_levels(near, root)
            for size in range(1, 5):
                for way in list(itertools.product(near, repeat=size))[::7]:
                    links = list(zip(way, way[1:]))
                    wanted = all(one in steps and other in near[one] for one, other in links)
                    if wanted:
                        ups = ups_of(near, root, way)
                        wanted = ups == sorted(ups, reverse=True)
                    self.same(is_up_and_down(near, root, way), wanted)
