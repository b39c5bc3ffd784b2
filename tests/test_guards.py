"""Points [1], [16] and [26]: guards."""

import itertools

from crossloom.errors import BadPaper, NoSuch
from crossloom.grids import Cube, Grid
from crossloom.guards import (apart_ways, check_near, check_ways, cut, cut_size, flow, near_of, still_joined, widen)
from tests.every import Case, as_lists


def all_tables(many, step=1):
    """Return tables of neighbours of so many nodes, all or each so many of them."""
    links = list(itertools.combinations(range(many), 2))
    for number in range(0, 1 << len(links), step):
        kept = [link for place, link in enumerate(links) if number >> place & 1]
        yield {node: tuple(sorted(other for link in kept for other in link if node in link and other != node))
               for node in range(many)}


TABLES = list(all_tables(2)) + list(all_tables(3)) + list(all_tables(4)) + list(all_tables(5, 13))


def links_of(near):
    """Return the links of a table, each once."""
    return sorted({tuple(sorted((node, other))) for node in near for other in near[node]})


def out_of(near, side):
    """Return how many links lead out of a side, counted link by link."""
    return sum((one in side) != (other in side) for one, other in links_of(near))


def least_cut(near, one, other):
    """Return the fewest links that lead out of any side with one and without the other."""
    rest = [node for node in near if node not in (one, other)]
    sides = [{one} | set(row) for count in range(len(rest) + 1) for row in itertools.combinations(rest, count)]
    return min(out_of(near, side) for side in sides)


def all_simple_ways(near, one, other, used=()):
    """Return all ways that go through no node twice, by links free to go, the shortest and first ahead."""
    found = []
    open_ways = [(one,)]
    while open_ways:
        way = open_ways.pop()
        if way[-1] == other:
            found.append(way)
        else:
            open_ways += [way + (node,) for node in near[way[-1]] if node not in way and (way[-1], node) not in used]
    return sorted(found, key=lambda way: (len(way), way))


def shows(near, one, other, ways, side):
    """Tell whether a paper shows, by the words of point [26], that there are no more ways."""
    steps = [link for way in ways for link in zip(way, way[1:])]
    gone = [tuple(sorted(link)) for link in steps]
    leads = all(len(way) > 1 and (way[0], way[-1]) == (one, other) for way in ways)
    apart = len(set(gone)) == len(gone) and all(link in links_of(near) for link in gone)
    parts = one in side and other not in side and set(side) <= set(near) and len(set(side)) == len(side)
    return leads and apart and parts and out_of(near, side) == len(ways)


class Tables(Case):
    def test_each_both_ways(self):
        for near in TABLES:
            self.assertEqual(check_near(near), near)
            self.assertEqual(check_near({node: list(row) for node, row in near.items()}), near)
        self.same(check_near({}), {})

    def test_refused(self):
        for near in ({0: (1,)}, {0: (1,), 1: ()}, {0: (), 1: (0,)}, {0: (1, 2), 1: (0,), 2: (1,)}, {0: [1, 5], 1: [0]}):
            self.refused(NoSuch, check_near, near)
            self.refused(NoSuch, apart_ways, near, 0, 1)
            self.refused(NoSuch, cut, near, 0, 1)

    def test_of_a_shape(self):
        for shape in (Grid(3, 2, False), Grid(3, 3, True), Grid(2, 1, True), Grid(1, 1, False), Cube(1), Cube(3)):
            near = near_of(shape)
            self.assertEqual(near, {node: shape.near(node) for node in shape.nodes()})
            self.assertEqual(check_near(near), near)
            self.same(sum(len(row) for row in near.values()), len(shape.links()))


class Ways(Case):
    def test_as_many_as_can_be_and_a_cut_of_as_many(self):
        for near in TABLES:
            for one, other in itertools.permutations(near, 2):
                ways, side = apart_ways(near, one, other), cut(near, one, other)
                self.assertTrue(shows(near, one, other, ways, side))
                self.assertEqual(len(ways), least_cut(near, one, other))
                self.same(check_ways(near, one, other, ways, side), True)
                self.same(cut_size(near, side), len(ways))
                self.assertTrue(all(len(set(way)) == len(way) for way in ways))
                self.assertEqual(list(side), sorted(side))
                self.assertIsInstance(ways, tuple)

    def test_rows_as_lists(self):
        for near in TABLES[::7]:
            lists = {node: list(row) for node, row in near.items()}
            for one, other in itertools.permutations(near, 2):
                ways, side = apart_ways(near, one, other), cut(near, one, other)
                self.same([apart_ways(lists, one, other), cut(lists, one, other)], [ways, side])
                self.same(check_ways(lists, one, other, as_lists(ways), list(side)), True)
            self.assertEqual(lists, {node: list(row) for node, row in near.items()})

    def test_on_shapes(self):
        for shape in (Grid(3, 3, False), Grid(4, 3, True), Grid(2, 2, False), Cube(3), Cube(4)):
            near = near_of(shape)
            nodes = shape.nodes()
            for one, other in itertools.islice(itertools.permutations(nodes, 2), 0, None, 7):
                ways, side = apart_ways(near, one, other), cut(near, one, other)
                # In grids and cubes no cut is less than what leads out of one of the two nodes.
                self.assertEqual(len(ways), min(len(near[one]), len(near[other])))
                self.same(check_ways(near, one, other, ways, side), True)
                self.same(check_ways(near, one, other, as_lists(ways), as_lists(side)), True)

    def test_shortest_and_first(self):
        square = {0: (1, 2), 1: (0, 3), 2: (0, 3), 3: (1, 2)}
        self.same([apart_ways(square, 0, 3), apart_ways(square, 1, 2)], [((0, 1, 3), (0, 2, 3)), ((1, 0, 2), (1, 3, 2))])
        # Handed in in another order, they are the same.
        turned = {3: (2, 1), 2: (3, 0), 1: (3, 0), 0: (2, 1)}
        self.same(apart_ways(turned, 0, 3), ((0, 1, 3), (0, 2, 3)))
        self.same(apart_ways({0: (1, 3), 1: (0, 2), 2: (1, 3), 3: (0, 2)}, 0, 3), ((0, 3), (0, 1, 2, 3)))

    def test_a_first_way_that_stands_in_the_way(self):
        # The shortest way, 0 1 2 5, takes a link from either of the two: they go by 1 3 and 4 2.
        near = {0: (1, 4), 1: (0, 2, 3), 2: (1, 4, 5), 3: (1, 6), 4: (0, 2), 5: (2, 6), 6: (3, 5)}
        self.same(widen(near, {}, 0, 5), [0, 1, 2, 5])
        ways = apart_ways(near, 0, 5)
        self.same(ways, ((0, 4, 2, 5), (0, 1, 3, 6, 5)))
        self.same(sorted(flow(near, 0, 5)), [(0, 1), (0, 4), (1, 3), (2, 5), (3, 6), (4, 2), (6, 5)])

    def test_nodes_that_do_not_hang_together(self):
        near = {0: (1,), 1: (0,), 2: (3,), 3: (2,), 4: ()}
        self.same([apart_ways(near, 0, 2), cut(near, 0, 2), cut(near, 4, 0)], [(), (0, 1), (4,)])
        self.same([flow(near, 0, 2), widen(near, {}, 0, 2), cut_size(near, (0, 1))], [{}, None, 0])
        self.same(check_ways(near, 0, 2, (), (0, 1)), True)

    def test_refused(self):
        near = {0: (1,), 1: (0,)}
        for one, other in ((0, 0), (0, 2), (2, 0), (2, 2), (-1, 1)):
            self.refused(NoSuch, apart_ways, near, one, other)
            self.refused(NoSuch, cut, near, one, other)
        self.refused(NoSuch, apart_ways, {}, 0, 1)


class Flows(Case):
    def test_what_comes_to_a_node_leaves_it(self):
        for near in TABLES:
            for one, other in itertools.permutations(near, 2):
                used = flow(near, one, other)
                for here, node in used:
                    self.assertIn(node, near[here])
                    self.assertNotIn((node, here), used)
                for node in near:
                    out = sum(link[0] == node for link in used) - sum(link[1] == node for link in used)
                    most = least_cut(near, one, other)
                    self.assertEqual(out, most if node == one else -most if node == other else 0)

    def test_none_from_a_node_to_itself(self):
        self.same(flow({0: (1,), 1: (0,)}, 0, 0), {})

    def test_widened_by_the_shortest_and_first(self):
        for near in TABLES[::3]:
            links = [link for link in links_of(near)]
            for used in ({}, dict.fromkeys(links[:2], 1), {(other, one): 1 for one, other in links[1:3]}):
                for one, other in itertools.permutations(near, 2):
                    ways = all_simple_ways(near, one, other, used)
                    self.same(widen(near, used, one, other), list(ways[0]) if ways else None)


class Cuts(Case):
    def test_links_that_lead_out(self):
        for near in TABLES[::3]:
            for count in range(len(near) + 1):
                for side in itertools.combinations(near, count):
                    self.same(self.both(lambda row: cut_size(near, row), side), out_of(near, side))


class Papers(Case):
    def test_taken_just_where_ways_and_cut_go_together(self):
        near = {0: (1, 2), 1: (0, 2, 3), 2: (0, 1, 3), 3: (1, 2)}
        ways = [way for way in all_simple_ways(near, 0, 3)] + [(0, 1, 0, 2, 3), (0,), (0, 3), (3, 1, 0), (0, 1), ()]
        sides = [side for count in range(5) for side in itertools.combinations(range(4), count)] + [(0, 0), (0, 9), (0, 1, 0)]
        taken = set()
        for count in range(4):
            for rows in itertools.combinations_with_replacement(ways, count):
                for side in sides:
                    if shows(near, 0, 3, rows, side):
                        self.same(check_ways(near, 0, 3, rows, side), True)
                        taken.add((rows, side))
                    else:
                        self.assertRaises(BadPaper, check_ways, near, 0, 3, rows, side)
        self.assertEqual({len(rows) for rows, _ in taken}, {2})
        self.assertEqual({side for _, side in taken}, {(0,), (0, 1, 2)})

    def test_refused_with_all_unchanged(self):
        near = {0: (1, 2), 1: (0, 3), 2: (0, 3), 3: (1, 2)}
        ways, side = ((0, 1, 3), (0, 2, 3)), (0, 1)
        self.same(check_ways(near, 0, 3, ways, side), True)
        for other_ways, other_side in (((), side), (ways[:1], side), (ways + ways[:1], side), (ways, ()), (ways, (3,)),
                                       (((0, 3),), side), (((0, 1, 3), (0, 2)), side), (((0,), (0, 2, 3)), side),
                                       (ways, (0, 7)), (ways, (0, 0, 1)), (ways, (0, 3)), (ways, (0, 1, 2, 3)),
                                       (((1, 3), (0, 2, 3)), side), (((0, 1), (0, 2, 3)), side),
                                       (((0, 1, 3), (0, 9, 3)), side), (((0, 1, 0, 2, 3), (0, 1, 3)), side)):
            self.refused(BadPaper, check_ways, near, 0, 3, other_ways, other_side)
            self.refused(BadPaper, check_ways, near, 0, 3, as_lists(other_ways), list(other_side))

    def test_a_link_gone_one_way_and_the_other(self):
        # Both ways go by the link of 1 and 2, each the other way round; the cut has as many links as there are ways.
        near = {0: (1, 2), 1: (0, 2, 3), 2: (0, 1, 3), 3: (1, 2)}
        self.refused(BadPaper, check_ways, near, 0, 3, ((0, 1, 2, 3), (0, 2, 1, 3)), (0,))


class Broken(Case):
    def test_with_fewer_broken_than_ways_they_still_hang_together(self):
        for near in TABLES[::5]:
            links = links_of(near)
            for one, other in itertools.combinations(near, 2):
                ways = len(apart_ways(near, one, other))
                seen = set()
                for count in range(min(ways + 1, len(links) + 1)):
                    for broken in itertools.combinations(links, count):
                        left = {node: [end for end in near[node] if tuple(sorted((node, end))) not in broken]
                                for node in near}
                        wanted = bool(all_simple_ways(left, one, other))
                        turned = [[end, node] for node, end in broken]
                        self.same([still_joined(near, one, other, broken), still_joined(near, one, other, turned)],
                                  [wanted, wanted])
                        self.assertTrue(wanted or count >= ways)
                        seen.add((count, wanted))
                # As many broken as there are ways can part them: those that lead out of the cut.
                self.assertIn((ways, False), seen)

    def test_a_node_and_itself(self):
        self.same(still_joined({0: (1,), 1: (0,)}, 0, 0, ((0, 1),)), True)
        self.same(still_joined({0: [1], 1: [0]}, 0, 1, [[1, 0]]), False)
