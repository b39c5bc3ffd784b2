"""Points [1], [8] and [23]: trees."""

import itertools
import random

from crossloom.errors import BadSize
from crossloom.trees import Tree, has_room
from tests.every import Case, all_pairings, as_lists

SIZES = [(leaves, switches) for leaves in range(1, 5) for switches in range(1, 5)]


def drawn_pairs(many, draws, free=0.3):
    """Return a drawn pairing of so many gates, some of them free."""
    goals = list(range(many))
    draws.shuffle(goals)
    return tuple(None if draws.random() < free else goal for goal in goals)


def counted(tree, pairs, tops):
    """Return how many ways go up or down between each switch and top, counted without the tree's ways."""
    found = {}
    for one, (goal, top) in enumerate(zip(pairs, tops)):
        if goal is not None and one // tree.leaves != goal // tree.leaves:
            for link in (("up", one // tree.leaves, top), ("down", goal // tree.leaves, top)):
                found[link] = found.get(link, 0) + 1
    return found


class Fields(Case):
    def test_fields(self):
        tree = Tree(2, 3, 4)
        self.same((tree.leaves, tree.switches, tree.tops, tree.size()), (2, 3, 4, 6))
        self.same([tree.switch(leaf) for leaf in range(6)], [0, 0, 1, 1, 2, 2])
        self.same([Tree(1, 1, 1).size(), Tree(5, 1, 1).size(), Tree(1, 5, 1).size()], [1, 5, 5])

    def test_refused(self):
        for told in itertools.product((-1, 0, 2), repeat=3):
            if min(told) < 1:
                self.refused(BadSize, Tree, *told)

    def test_has_room(self):
        for leaves, switches, tops in itertools.product(range(1, 4), range(1, 3), range(1, 5)):
            self.same(has_room(Tree(leaves, switches, tops)), tops >= leaves)


class Ways(Case):
    def test_up_to_a_top_and_down_where_the_switches_are_unlike(self):
        for leaves, switches in SIZES:
            tree = Tree(leaves, switches, 3)
            for one, other, top in itertools.product(range(tree.size()), range(tree.size()), range(3)):
                way = tree.way(one, other, top)
                self.assertEqual(len(way), 4 if tree.switch(one) != tree.switch(other) else 2)
                # The links hang together.
                self.assertTrue(all(link[1] == behind[0] for link, behind in zip(way, way[1:])))
                self.assertEqual(len(set(way)), len(way))
                if len(way) == 2:
                    self.same({tree.way(one, other, low) for low in range(3)}, {way})

    def test_links_are_told_apart(self):
        tree = Tree(2, 3, 2)
        ways = {(one, other, top): tree.way(one, other, top)
                for one, other, top in itertools.product(range(6), range(6), range(2))}
        for (one, other, top), way in ways.items():
            for (first, second, third), other_way in ways.items():
                if len(way) == len(other_way) == 4:
                    alike = [link == twin for link, twin in zip(way, other_way)]
                    wanted = [one == first, (one // 2, top) == (first // 2, third),
                              (other // 2, top) == (second // 2, third), other == second]
                    self.assertEqual(alike, wanted)
                    self.assertFalse(set(way[:2]) & set(other_way[2:]))


class Loads(Case):
    def test_counted(self):
        draws = random.Random(81)
        for number in range(150):
            leaves, switches = SIZES[number % len(SIZES)]
            tree = Tree(leaves, switches, draws.randint(1, 4))
            pairs = drawn_pairs(tree.size(), draws)
            tops = tuple(draws.randrange(tree.tops) for _ in pairs)
            loads = self.both(lambda rows: tree.loads(rows[0], rows[1]), (pairs, tops))
            wanted = {}
            for one, goal in enumerate(pairs):
                for link in tree.way(one, goal, tops[one]) if goal is not None else ():
                    wanted[link] = wanted.get(link, 0) + 1
            self.assertEqual(loads, wanted)
            # One way for each leaf's own links, and as many between switches and tops as are counted by hand.
            own = 2 * sum(goal is not None for goal in pairs)
            self.assertEqual(sorted(loads.values()), sorted([1] * own + list(counted(tree, pairs, tops).values())))
            self.same(tree.most_load(pairs, tops), max(loads.values(), default=0))

    def test_worked_by_hand(self):
        tree = Tree(2, 2, 2)
        self.same(tree.most_load((2, 3, 0, 1), (0, 0, 0, 1)), 2)
        self.same(tree.most_load((2, 3, 0, 1), (0, 1, 0, 1)), 1)
        self.same(tree.most_load((1, 0, 2, None), (0, 0, 0, 0)), 1)
        self.same([tree.most_load((None,) * 4, (0,) * 4), tree.loads((None,) * 4, (0,) * 4)], [0, {}])
        self.same(Tree(3, 2, 1).most_load((3, 4, 5, None, None, None), (0,) * 6), 3)


class Tops(Case):
    def test_with_as_many_tops_as_leaves_each_link_has_one_way_at_most(self):
        for leaves, switches in ((1, 1), (1, 4), (4, 1), (2, 2)):
            for pairs in all_pairings(leaves * switches):
                self.one_way_a_link(Tree(leaves, switches, leaves), pairs)
        draws = random.Random(82)
        for number in range(300):
            leaves, switches = SIZES[number % len(SIZES)]
            tree = Tree(leaves, switches, leaves + number % 3)
            self.assertTrue(has_room(tree))
            self.one_way_a_link(tree, drawn_pairs(tree.size(), draws, draws.choice((0, 0.4))))

    def one_way_a_link(self, tree, pairs):
        tops = self.both(tree.spread, pairs)
        self.assertTrue(all(0 <= top < tree.tops for top in tops))
        self.assertTrue(all(top == 0 for top, goal in zip(tops, pairs) if goal is None))
        self.assertEqual(len(tops), len(pairs))
        self.assertLessEqual(tree.most_load(pairs, tops), 1)

    def test_gone_round_the_tops_there_are(self):
        draws = random.Random(83)
        for number in range(100):
            leaves, switches = SIZES[number % len(SIZES)]
            many = leaves * switches
            pairs = drawn_pairs(many, draws)
            wide = Tree(leaves, switches, leaves).spread(pairs)
            for tops in range(1, leaves + 1):
                tree = Tree(leaves, switches, tops)
                self.same(tree.spread(pairs), tuple(top % tops for top in wide))

    def test_spread_worked_by_hand(self):
        self.same(Tree(2, 2, 2).spread((2, 3, 0, 1)), (0, 1, 0, 1))
        self.same(Tree(2, 2, 1).spread((2, 3, 0, 1)), (0, 0, 0, 0))
        self.same(Tree(2, 2, 2).spread((None, 3, None, 1)), (0, 0, 0, 0))
        self.same(Tree(2, 2, 2).spread((None,) * 4), (0,) * 4)

    def test_a_goal_that_is_not_there_is_refused(self):
        for pairs in ((4, None, None, None), (0, -1, None, None)):
            self.refused(BadSize, Tree(2, 2, 2).spread, pairs)
            self.refused(BadSize, Tree(2, 2, 2).spread, as_lists(pairs))

    def test_by_goal(self):
        tree = Tree(3, 2, 2)
        self.same(self.both(tree.by_goal, (5, 4, 3, 2, 1, 0)), (0, 1, 0, 0, 1, 0))
        self.same(tree.by_goal((None, 4, None, None, 5, None)), (0, 1, 0, 0, 0, 0))
        self.same(Tree(3, 2, 5).by_goal((5, 4, 3, 2, 1, 0)), (2, 1, 0, 2, 1, 0))
        self.same(Tree(3, 2, 1).by_goal((5, 4, 3, 2, 1, 0)), (0,) * 6)
        for leaves, switches in SIZES:
            many = leaves * switches
            for tops in (1, 2, leaves):
                found = Tree(leaves, switches, tops).by_goal(tuple(range(many))[::-1])
                self.same(found, tuple((goal % leaves) % tops for goal in range(many))[::-1])

    def test_by_goal_no_link_down_has_two_ways_where_there_are_tops_enough(self):
        draws = random.Random(84)
        for number in range(100):
            leaves, switches = SIZES[number % len(SIZES)]
            tree = Tree(leaves, switches, leaves)
            pairs = drawn_pairs(tree.size(), draws)
            rows = counted(tree, pairs, tree.by_goal(pairs))
            self.assertLessEqual(max([count for link, count in rows.items() if link[0] == "down"], default=0), 1)


class Least(Case):
    def test_no_tops_are_under_it(self):
        for leaves, switches, tops in ((2, 2, 1), (2, 2, 2), (3, 1, 2), (1, 4, 2), (2, 2, 3), (1, 1, 1)):
            tree = Tree(leaves, switches, tops)
            for pairs in all_pairings(leaves * switches):
                least = self.both(tree.least_load, pairs)
                loads = [tree.most_load(pairs, row) for row in itertools.product(range(tops), repeat=len(pairs))]
                self.assertLessEqual(least, min(loads))
                # Where a way goes by a top, some tops come down to it.
                if counted(tree, pairs, [0] * len(pairs)):
                    self.assertEqual(least, min(loads))
                else:
                    self.assertEqual(least, 0)

    def test_more_leaves_than_tops(self):
        draws = random.Random(85)
        for _ in range(12):
            tree = Tree(3, 2, 2)
            pairs = drawn_pairs(6, draws, 0.2)
            least = tree.least_load(pairs)
            for row in itertools.product(range(2), repeat=6):
                self.assertLessEqual(least, tree.most_load(pairs, row))

    def test_worked_by_hand(self):
        self.same([Tree(4, 2, tops).least_load((4, 5, 6, None, None, None, None, 7)) for tops in range(1, 5)], [3, 2, 1, 1])
        # Three ways come into the last switch, one out of each other.
        pairs = (9, None, None, 10, None, None, 11, None, None, None, None, None)
        self.same([Tree(3, 4, tops).least_load(pairs) for tops in range(1, 4)], [3, 2, 1])
        self.same([Tree(2, 2, 2).least_load((1, 0, 3, 2)), Tree(2, 2, 2).least_load((None,) * 4)], [0, 0])
