"""Points [1], [18] and [30]: worms."""

import itertools
import random

from crossloom.errors import BadSize
from crossloom.grids import Cube, Grid
from crossloom.ways import by_columns, by_figures
from crossloom.worms import Worms, alone
from tests.every import Case, as_lists, state


class SlowWorms:
    """Packets by point [18]'s words: how often each has moved, its end as far behind as it is long till it arrives."""

    def __init__(self, packets):
        self.links = [list(zip(way, way[1:])) for way, _ in packets]
        self.lengths = [length for _, length in packets]
        self.come = [0] * len(packets)

    def held(self, number):
        links = self.links[number]
        taken = min(self.come[number], len(links))
        # Arrived, it leaves a link with each move, be it longer than its way or not.
        return links[max(taken - self.lengths[number], 0) + self.come[number] - taken:taken]

    def holder(self):
        return {link: number for number in range(len(self.links)) for link in self.held(number)}

    def is_over(self, number):
        return self.come[number] >= len(self.links[number]) and not self.held(number)

    def go(self):
        found = []
        for number, links in enumerate(self.links):
            ahead = links[self.come[number]:self.come[number] + 1]
            if not self.is_over(number) and not (ahead and ahead[0] in self.holder()):
                self.come[number] += 1
                found.append(number)
        return tuple(found)


def drawn_packets(shape, route, many, draws):
    """Return packets, (way, length), between drawn nodes of a shape."""
    nodes = shape.nodes()
    return tuple((route(shape, draws.choice(nodes), draws.choice(nodes)), draws.randint(1, 5)) for _ in range(many))


def eastward(grid, one, other):
    """Return the nodes from one to another of a round row, always to the east, so that many wait in rings."""
    found = [one]
    while found[-1] != other:
        found.append(grid.step(found[-1], "east"))
    return tuple(found)


def ring_of_packets(many, length):
    """Return packets that each go two links on in a ring of so many nodes, and so wait for each other."""
    return tuple(((one, (one + 1) % many, (one + 2) % many), length) for one in range(many))


class Packets(Case):
    def test_fields(self):
        for packets in ((((0, 1, 2), 2), ((5,), 1), ((), 3)), [[[0, 1, 2], 2], [[5], 1], [[], 3]]):
            worms = Worms(packets)
            self.same((worms.taken, worms.left, worms.holder, worms.slots), ([0, 0, 0], [0, 0, 0], {}, 0))
            self.assertEqual([list(way) for way in worms.ways], [[0, 1, 2], [5], []])
            self.assertEqual(list(worms.lengths), [2, 1, 3])

    def test_packets_of_no_length(self):
        for packets in ((((0, 1), 0),), (((0, 1), 2), ((1, 2), -1)), (((), 0),)):
            self.refused(BadSize, Worms, packets)
            self.refused(BadSize, Worms, as_lists(packets))

    def test_no_packets_and_packets_with_no_links(self):
        none = Worms(())
        self.same((none.all_over(), none.ring(), none.run(3), none.slots), (True, None, "over", 0))
        self.same((none.go(), none.slots), ((), 1))
        still = Worms((((3,), 2), ((), 1)))
        self.same([still.is_over(0), still.is_over(1), still.all_over(), still.next_link(0)], [True, True, True, None])
        self.same((still.go(), still.run(0), still.holder), ((), "over", {}))


class Moves(Case):
    def test_a_packet_step_by_step(self):
        worms = Worms((((0, 1, 2, 3), 2),))
        rows = []
        for _ in range(6):
            rows.append((worms.next_link(0), worms.go(), worms.taken[0], worms.left[0], worms.holder))
        self.same([row[:3] for row in rows[:3]], [((0, 1), (0,), 1), ((1, 2), (0,), 2), ((2, 3), (0,), 3)])
        self.same([row[3] for row in rows], [0, 0, 1, 2, 3, 3])
        self.same([row[:2] for row in rows[3:]], [(None, (0,)), (None, (0,)), (None, ())])
        self.same((worms.taken, worms.left, worms.holder, worms.slots), ([3], [3], {}, 6))

    def test_links_held_step_by_step(self):
        worms = Worms((((0, 1, 2, 3), 2), ((1, 2, 0), 1)))
        self.same([worms.go(), worms.holder], [(0, 1), {(0, 1): 0, (1, 2): 1}])
        # Packet 0 comes first, and packet 1 still holds the link that it needs.
        self.same([worms.can_move(0), worms.can_move(1), worms.waits_for(0), worms.waits_for(1)], [False, True, 1, None])
        self.same([worms.go(), worms.holder], [(1,), {(0, 1): 0, (2, 0): 1}])
        self.same([worms.go(), worms.holder], [(0, 1), {(0, 1): 0, (1, 2): 0}])
        self.same([worms.is_over(0), worms.is_over(1), worms.all_over()], [False, True, False])
        self.same([worms.can_move(1), worms.waits_for(1)], [True, None])
        self.same([worms.go(), worms.holder], [(0,), {(1, 2): 0, (2, 3): 0}])
        self.same([worms.run(9), worms.holder, worms.slots], ["over", {}, 6])

    def test_a_link_left_in_a_slot_is_taken_in_it_by_a_later_packet_only(self):
        first = Worms((((0, 1, 2), 1), ((0, 1), 1)))
        self.same([first.go(), first.go()], [(0,), (0, 1)])
        second = Worms((((0, 1), 1), ((0, 1, 2), 1)))
        second.move(1)
        self.same([second.go(), second.go()], [(1,), (0, 1)])

    def test_moves_and_leaves_by_themselves(self):
        worms = Worms((((0, 1, 2), 2), ((5, 6), 1)))
        self.same([worms.move(0), worms.move(0), worms.holder], [None, None, {(0, 1): 0, (1, 2): 0}])
        self.same([worms.leave(0), worms.left, worms.holder], [None, [1, 0], {(1, 2): 0}])
        self.same([worms.move(1), worms.leave(1), worms.holder, worms.is_over(1)], [None, None, {(1, 2): 0}, True])
        self.same(worms.slots, 0)
        # Over, it has no link left to leave.
        self.same([worms.move(1), worms.taken, worms.left], [None, [2, 1], [1, 1]])

    def test_a_packet_leaves_no_link_before_it_holds_more_than_its_length(self):
        worms = Worms((((0, 1, 2, 3, 4), 2),))
        worms.move(0)
        worms.move(0)
        worms.leave(0)
        rows = []
        for _ in range(4):
            worms.move(0)
            rows.append((worms.taken[0], worms.left[0]))
        self.same(rows, [(3, 1), (4, 2), (4, 3), (4, 4)])

    def test_a_packet_longer_than_its_way_leaves_one_link_a_slot_when_it_has_arrived(self):
        for length in (3, 4, 5, 50):
            worms = Worms((((0, 1, 2, 3), length),))
            rows = [(worms.go(), worms.taken[0], worms.left[0], worms.is_over(0)) for _ in range(7)]
            self.same([row[:3] for row in rows[:3]], [((0,), taken, 0) for taken in (1, 2, 3)])
            self.same(rows[3:], [((0,), 3, 1, False), ((0,), 3, 2, False), ((0,), 3, 3, True), ((), 3, 3, True)])
            self.same(worms.holder, {})

    def test_a_link_left_by_a_long_packet_is_free_for_others(self):
        worms = Worms((((0, 1, 2), 9), ((0, 1), 9)))
        self.same([worms.go() for _ in range(5)], [(0,), (0,), (0, 1), (0, 1), ()])
        self.same((worms.left, worms.all_over()), ([2, 1], True))

    def test_slot_by_slot_by_the_words(self):
        draws = random.Random(41)
        told = []
        shapes = [(Grid(3, 3, False), by_columns), (Grid(4, 1, True), eastward), (Grid(3, 2, True), by_columns),
                  (Cube(3), by_figures), (Grid(1, 1, True), by_columns)]
        for number in range(180):
            if number % 6 < 5:
                packets = drawn_packets(*shapes[number % 6], number % 8, draws)
            else:
                packets = tuple(draws.sample(ring_of_packets(4, draws.randint(1, 4)), 4)) + packets[:2]
            worms, slow = Worms(packets if number % 2 else as_lists(packets)), SlowWorms(packets)
            for slot in range(40):
                for one in range(len(packets)):
                    self.same(worms.is_over(one), slow.is_over(one))
                self.same(worms.all_over(), all(slow.is_over(one) for one in range(len(packets))))
                self.same(worms.go(), slow.go())
                self.assertEqual(worms.holder, slow.holder())
                come = [min(come, len(links)) for come, links in zip(slow.come, slow.links)]
                self.same((worms.taken, worms.slots), (come, slot + 1))
                self.same(worms.left, [taken - len(slow.held(one)) for one, taken in enumerate(come)])
            told.append(worms.all_over())
        self.assertTrue(told.count(True) > 50 and told.count(False) > 10)

    def test_ways_that_pass_a_link_twice(self):
        worms = Worms((((0, 1, 0, 1), 3),))
        self.same([worms.go(), worms.go(), worms.go()], [(0,), (0,), ()])
        self.same([worms.waits_for(0), worms.ring()], [0, (0,)])
        self.same([Worms((((0, 1, 0, 1), 1),)).run(9), alone((0, 1, 0, 1), 1)], ["over", 4])


class Runs(Case):
    def test_over_still_and_late(self):
        packets = (((0, 1, 2, 3), 2),)
        for most in range(8):
            worms = Worms(packets)
            self.same(worms.run(most), "over" if most >= 5 else "late")
            self.same(worms.slots, min(most, 5))
        for most in range(1, 5):
            worms = Worms(ring_of_packets(3, 2))
            self.same(worms.run(most), "late" if most < 2 else "still")

    def test_a_run_goes_on_from_where_it_stands(self):
        worms = Worms((((0, 1, 2, 3), 2),))
        self.same([worms.run(2), worms.run(2), worms.slots, worms.run(2), worms.run(3), worms.slots],
                  ["late", "late", 4, "over", "over", 5])

    def test_against_going_slot_by_slot(self):
        draws = random.Random(42)
        told = set()
        for number in range(100):
            packets = drawn_packets(Grid(4, 1, True), eastward, 2 + number % 6, draws)
            most = draws.choice((2, 40))
            slow = SlowWorms(packets)
            wanted = "late"
            for _ in range(most):
                if not slow.go():
                    wanted = "still"
                    break
            if all(slow.is_over(one) for one in range(len(packets))):
                wanted = "over"
            self.same(self.both(lambda rows: Worms(rows).run(most), packets), wanted)
            told.add(wanted)
        self.assertEqual(told, {"over", "still", "late"})

    def test_a_packet_alone_takes_the_told_slots(self):
        for links, length in itertools.product(range(6), range(1, 8)):
            way = tuple(range(links + 1))
            found = self.both(alone, way, length)
            self.same(found, links + length if length < links else 2 * links)
            worms = Worms(((way, length),))
            self.same((worms.run(99), worms.slots), ("over", found))
            if found > 0:
                self.same(Worms(((way, length),)).run(found - 1), "late")
        self.same([alone((), 4), alone((3,), 4)], [0, 0])


class Rings(Case):
    def test_packets_that_wait_in_a_ring(self):
        for many, length in itertools.product((2, 3, 4, 6), (1, 2, 3)):
            worms = Worms(ring_of_packets(many, length))
            self.same(worms.ring(), None)
            self.same(worms.run(50), "still")
            self.same(worms.ring(), tuple(range(many)))
            self.same([worms.waits_for(one) for one in range(many)], [(one + 1) % many for one in range(many)])
            before = state(worms)
            self.same(worms.go(), ())
            self.same((worms.holder, worms.taken, worms.left), (before["holder"], before["taken"], before["left"]))

    def test_told_from_the_lowest_on(self):
        # Packet 0 waits for packet 1, which is in a ring with 3 and 4.
        packets = (((9, 8, 0, 1), 9), ((8, 0, 4), 2), ((6, 5), 1), ((0, 4, 8), 2), ((4, 8, 0), 2))
        worms = Worms(packets)
        self.same(worms.run(50), "still")
        self.same([worms.waits_for(one) for one in range(5)], [1, 3, None, 4, 1])
        self.same(worms.ring(), (1, 3, 4))
        self.same(worms.is_over(2), True)

    def test_no_ring_where_some_wait_in_a_row(self):
        worms = Worms((((1, 2, 3), 9), ((2, 3, 4), 9), ((0, 1, 2), 9)))
        worms.go()
        self.same([worms.waits_for(one) for one in range(3)], [1, None, 0])
        self.same(worms.ring(), None)
        self.same(worms.run(99), "over")

    def test_two_rings(self):
        one = ring_of_packets(2, 2)
        other = tuple((tuple(node + 5 for node in way), 2) for way, _ in one)
        worms = Worms((other[0], one[0], other[1], one[1]))
        self.same(worms.run(9), "still")
        self.same(worms.ring(), (0, 2))
