"""Point [1]: the kinds of what is told: lists and tables where they are told to be, tuples elsewhere, within them too."""

from crossloom.banyans import own_settings, put
from crossloom.benes import net_of, settings_for
from crossloom.clos import Clos
from crossloom.colours import Calls, coloured
from crossloom.copiers import check_groups
from crossloom.crossbars import Crossbar
from crossloom.desks import Desk
from crossloom.elements import Net, all_settings
from crossloom.fairs import check_flows
from crossloom.frames import check_rates, widened
from crossloom.grids import Grid
from crossloom.guards import check_near, flow, near_of, widen
from crossloom.matches import check_wants, heaviest
from crossloom.mimics import Mimic
from crossloom.rooms import sent_once, with_cell
from crossloom.rounds import check_packets
from crossloom.sorters import merged_part, sorted_part
from crossloom.switches import Switch
from crossloom.tables import least_joints
from crossloom.throws import Throws
from crossloom.trees import Tree
from crossloom.ways import levels, numbered, ring_of
from crossloom.worms import Worms
from tests.every import Case

# Neighbours of three nodes in a row.
NEAR = {0: [1], 1: [0, 2], 2: [1]}


class Lists(Case):
    def test_rows_in_a_list_are_tuples(self):
        for made in (list, tuple):
            rows = made([made([1, 0]), made([0, 2])])
            self.same(check_rates(rows, 3), [(1, 0), (0, 2)])
            self.same(widened(rows, 0, 1, 2), [(1, 2), (0, 2)])
            self.same(check_wants(made([made([1, 0]), made([1])]), 2), [(0, 1), (1,)])
            self.same(check_groups(made([made([1, 0]), made([])]), 2), [(0, 1), ()])
            self.same(check_packets(made([made([1, 4]), made([0, 2])]), made([1, 1])), [(1, 4), (0, 2)])
            self.same(check_flows(made([made([1, 0]), made([0])]), made([1, 1])), [(0, 1), (0,)])

    def test_rates_of_a_switch(self):
        switch = Switch(2, 4)
        self.same(switch.all_rates(), [(0, 0), (0, 0)])
        switch.admit(1, 0, 2, 3)
        self.same(switch.all_rates(), [(0, 0), (3, 0)])
        self.same(Switch(0, 1).all_rates(), [])

    def test_rates_of_a_desk(self):
        desk = Desk()
        desk.say("frame 2 3")
        self.same(desk.rates, [(0, 0), (0, 0)])
        desk.say("rate 0 1 2")
        self.same(desk.rates, [(0, 2), (0, 0)])

    def test_settings_are_lists_all_through(self):
        net = Net(2, [[0, 1], [1, 0]])
        for made in (list, tuple):
            self.same(net.check(made([made([1])])), [[1]])
            self.same(settings_for(made([1, 0, 3, 2])), [[0, 0], [0, 0], [1, 1]])
            self.same(own_settings(made([0, None])), [[0]])
        self.same(net.straight(), [[0]])
        self.same(all_settings(net), [[[0]], [[1]]])
        self.same(net_of(4).check(settings_for((1, 0, 3, 2))), settings_for((1, 0, 3, 2)))

    def test_middle_ones(self):
        net = Clos(2, 2, 2)
        net.put(0, 3)
        self.same([net.used_in(0), net.used_out(1), net.free_middle(1, 2)], [[0], [0], [1]])

    def test_cells_wanted(self):
        mimic = Mimic(2)
        mimic.put(0, 1, "a")
        mimic.put(1, 1, "b")
        self.same(mimic.wanted(1), [(0, 0, "a"), (1, 1, "b")])

    def test_a_way_that_is_widened(self):
        self.same(widen(NEAR, {}, 0, 2), [0, 1, 2])


class Tables(Case):
    def test_tables(self):
        self.same(numbered([["a", "b"]]), {"a": 0, "b": 1})
        self.same(levels(NEAR, 1), {1: 0, 0: 1, 2: 1})
        self.same(with_cell({(0, 0): 0}, 1, 1), {(0, 0): 0, (0, 1): 0})
        self.same(sent_once({(1, 0): 2}), {(0, 0): 3})
        self.same(sorted(Tree(1, 2, 1).loads([1, 0], [0, 0]).values()), [1] * 8)
        self.same(sorted(flow(NEAR, 0, 2)), [(0, 1), (1, 2)])

    def test_rows_in_a_table_are_tuples(self):
        self.same(check_near(NEAR), {0: (1,), 1: (0, 2), 2: (1,)})
        self.same(near_of(Grid(2, 1, False)), {(0, 0): ((1, 0),), (1, 0): ((0, 0),)})


class Elsewhere(Case):
    def test_functions(self):
        for made in (list, tuple):
            self.same(put(made([None, 0]), 0, 1), (1, 0))
            self.same(coloured(made([made([0, 1]), made([0, 0])]), 1, 2), (0, 1))
            self.same(heaviest(made([made([0, 1]), made([1, 0])])), (1, 0))
            self.same(ring_of(made([made(["a", "b"]), made(["b", "a"])])), ("a", "b"))
        self.same([sorted_part(0, 2), merged_part(0, 2, 1)], [((0, 1),), ((0, 1),)])
        self.same(least_joints(1, True), (3, 1))

    def test_methods(self):
        calls = Calls([[0, 0], [0, 1]], 1, 2)
        self.same([calls.colour(0, 2), calls.colour(1, 2)], [(), ()])
        net = Clos(2, 2, 2)
        self.same(net.put_moving(0, 1), ())
        self.same(Mimic(1).turn([[0, 0, "a"]], 1), ((0, "a"),))
        switch = Switch(1, 1)
        switch.admit(0, 0, 1, 1)
        self.same(switch.turn([1]), ((0, 0, (0, 0, 0), 0),))
        self.same(Throws(Grid(2, 1, False), [["a", [0, 0], [1, 0]]]).throw(), (("a", (1, 0)),))
        self.same(Worms([[[[0, 0], [1, 0]], 1]]).next_link(0), ((0, 0), (1, 0)))
        self.same([Desk().say("show"), Desk().do("frame 1 1")], [("error: no such",), ()])

    def test_rows_that_are_checked_for_a_crossbar(self):
        # They have no mark of their own: what they ask for, check_wants, tells a list.
        bar = Crossbar(2)
        bar.put(0, 1, "a")
        self.same(bar.wants(), [(1,), ()])
