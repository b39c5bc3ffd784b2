"""Points [1], [19] and [30]: marks."""

import itertools
import random

from crossloom.errors import BadSize
from crossloom.marks import Link, link_run, room_for_all, sent_in
from tests.every import Case

WAYS = list(itertools.product(range(4), repeat=2))
LINKS = [(room, there, back) for room in range(7) for there, back in WAYS]


class SlowLink:
    """A link by point [19]'s words: of each cell the slots in which it left, came in and went on."""

    def __init__(self, room, there, back):
        self.room, self.there, self.back = room, there, back
        self.slot = 0
        self.left = []
        self.gone = []
        self.most = 0

    def inside(self):
        return [cell for cell, slot in self.left if slot + self.there <= self.slot][len(self.gone):]

    def marks(self):
        """Return the marks at hand: all but those of cells that left and whose marks are not for use yet."""
        for_use = [slot for slot in self.gone if slot + self.back <= self.slot and slot < self.slot]
        return self.room - len(self.left) + len(for_use)

    def turn(self, cells, drains):
        sent = tuple(cells[:self.marks()])
        self.left += [(cell, self.slot) for cell in sent]
        self.most = max(self.most, len(self.inside()))
        gone = tuple(self.inside()[:drains])
        self.gone += [self.slot] * len(gone)
        self.slot += 1
        return sent, gone


def drawn_cells(slots, draws):
    """Return the cells of each slot and how many may go on in each."""
    cells = [[f"{slot}.{number}" for number in range(draws.choice((0, 1, 1, 2, 5)))] for slot in range(slots)]
    return cells, [draws.choice((0, 0, 1, 1, 2, 9)) for _ in range(slots)]


class Fields(Case):
    def test_fields(self):
        link = Link(3, 2, 1)
        self.same((link.room, link.there, link.back, link.marks, link.slot, link.most), (3, 2, 1, 3, 0, 0))
        self.same((link.cells, list(link.notes), list(link.inside), link.counted()), ([], [], [], 3))

    def test_rooms_and_ways_below_nought(self):
        for told in itertools.product((-1, 0, 2), repeat=3):
            if min(told) < 0:
                self.refused(BadSize, Link, *told)
                self.refused(BadSize, sent_in, *told, 3)
                self.refused(BadSize, sent_in, *told, 0)
                self.refused(BadSize, link_run, *told, (("a",), ()), (1, 1))
                self.refused(BadSize, link_run, *told, [["a"], []], [1, 1])
                self.refused(BadSize, link_run, *told, (), ())
            else:
                self.same(Link(*told).counted(), told[0])


class Slots(Case):
    def test_worked_by_hand(self):
        link = Link(2, 2, 1)
        self.same(link.turn(["a", "b", "c"], 5), (("a", "b"), ()))
        self.same((link.marks, link.cells, link.most), (0, [("a", 2), ("b", 2)], 0))
        self.same(link.turn(["c"], 5), ((), ()))
        # Both come in, and one goes on; its mark is back in the next slot.
        self.same(link.turn(["c"], 1), ((), ("a",)))
        self.same((link.marks, link.cells, link.most, link.counted()), (0, [], 2, 2))
        self.same(link.turn(["c", "d"], 0), (("c",), ()))
        self.same((link.marks, link.cells, link.slot), (0, [("c", 5)], 4))
        self.same(link.turn([], 5), ((), ("b",)))
        self.same(link.turn((), 5), ((), ("c",)))
        self.same((link.marks, link.most, link.slot, link.counted()), (1, 2, 6, 2))

    def test_no_slots_there_and_none_back(self):
        link = Link(1, 0, 0)
        self.same(link.turn(["a", "b"], 1), (("a",), ("a",)))
        # Its mark is back in that slot, for use from the slot behind at the earliest.
        self.same((link.marks, link.cells, list(link.notes), link.most), (1, [], [], 1))
        self.same(link.turn(["b"], 0), (("b",), ()))
        self.same((link.marks, link.counted()), (0, 1))
        self.same(link.turn(["c"], 1), ((), ("b",)))
        self.same((link.marks, link.counted()), (1, 1))
        self.same(link.turn(["c"], 1), (("c",), ("c",)))

    def test_a_room_of_nought(self):
        for there, back in WAYS:
            link = Link(0, there, back)
            self.same([link.turn(["a"], 3) for _ in range(4)], [((), ())] * 4)
            self.same((link.marks, link.most, link.counted()), (0, 0, 0))

    def test_slot_by_slot_by_the_words(self):
        draws = random.Random(51)
        for room, there, back in LINKS:
            link, slow = Link(room, there, back), SlowLink(room, there, back)
            came, went = [], []
            cells, drains = drawn_cells(30, draws)
            for slot, (row, many) in enumerate(zip(cells, drains)):
                before = list(row)
                found = link.turn(tuple(row) if slot % 2 else row, many)
                self.assertEqual(row, before)
                self.same(found, slow.turn(row, many))
                came.extend(found[0])
                went.extend(found[1])
                self.same(link.most, slow.most)
                self.same(link.cells, [(cell, left + there) for cell, left in slow.left if left + there > slot])
                self.same(link.counted(), room)
                self.assertLessEqual(link.most, room)
                self.assertTrue(0 <= link.marks <= room)
                self.same(link.slot, slot + 1)
                # In order, and none lost: what has not gone on is inside or on its way.
                self.same(went + list(link.inside) + [cell for cell, _ in link.cells], came)

    def test_marks_at_hand(self):
        draws = random.Random(52)
        for room, there, back in LINKS:
            link, slow = Link(room, there, back), SlowLink(room, there, back)
            for row, many in zip(*drawn_cells(12, draws)):
                # Marks that are due are at hand once a slot has begun, ahead of the cells that leave.
                at_hand = slow.marks()
                sent, gone = link.turn(row, many)
                slow.turn(row, many)
                # With no slots back those of cells that went on are at hand behind the slot itself.
                self.same(link.marks, at_hand - len(sent) + (len(gone) if back == 0 else 0))
                self.same(len(link.notes), len([left for left in slow.gone if back and left + back >= slow.slot]))


class Rooms(Case):
    def test_with_the_told_room_a_cell_leaves_in_every_slot_with_one_fewer_not(self):
        for there, back in itertools.product(range(6), repeat=2):
            room = room_for_all(there, back)
            self.same(room, there + (back if back > 0 else 1))
            self.same(sent_in(room, there, back, 40), 40)
            self.assertLess(sent_in(room - 1, there, back, 40), 40)
            self.same(sent_in(room + 3, there, back, 40), 40)

    def test_sent_in_slot_by_slot(self):
        for room, there, back in LINKS:
            for slots in (0, 1, 5, 17):
                slow = SlowLink(room, there, back)
                wanted = sum(len(slow.turn(["x"], 99)[0]) for _ in range(slots))
                self.same(sent_in(room, there, back, slots), wanted)
        self.same([sent_in(2, 3, 2, slots) for slots in range(9)], [0, 1, 2, 2, 2, 2, 3, 4, 4])


class Runs(Case):
    def test_cells_not_sent_wait_ahead_of_new_ones(self):
        cells = (("a", "b", "c"), ("d",), (), (), ())
        found = self.both(lambda rows: link_run(2, 1, 1, rows[0], rows[1]), (cells, (9, 9, 1, 9, 9)))
        self.same(found, ((("a", "b"), ()), ((), ("a", "b")), (("c", "d"), ()), ((), ("c", "d")), ((), ())))
        self.same(link_run(0, 1, 1, (("a",), ("b",)), (1, 1)), (((), ()), ((), ())))
        self.same([link_run(3, 1, 1, (), ()), link_run(3, 1, 1, [()], [0])], [(), (((), ()),)])

    def test_slot_by_slot_by_the_words(self):
        draws = random.Random(53)
        for room, there, back in LINKS:
            cells, drains = drawn_cells(20, draws)
            slow, waiting, wanted = SlowLink(room, there, back), [], []
            for row, many in zip(cells, drains):
                waiting += row
                wanted.append(slow.turn(waiting, many))
                waiting = waiting[len(wanted[-1][0]):]
            found = self.both(lambda rows: link_run(room, there, back, rows[0], rows[1]), (cells, drains))
            self.same(found, tuple(wanted))

    def test_all_goes_through_in_order(self):
        draws = random.Random(54)
        for room, there, back in LINKS:
            if room > 0:
                cells, _ = drawn_cells(10, draws)
                many = sum(len(row) for row in cells)
                slots = 10 + (there + back + 1) * (many + 1)
                found = link_run(room, there, back, cells + [[]] * (slots - 10), [1] * slots)
                for place in (0, 1):
                    self.same([cell for row in found for cell in row[place]], [cell for row in cells for cell in row])

    def test_rows_of_unlike_lengths(self):
        self.same(link_run(2, 1, 0, (("a",),), (0, 1, 1)), ((("a",), ()), ((), ("a",)), ((), ())))
        self.same(link_run(2, 0, 0, (("a",), ("b",)), (1,)), ((("a",), ("a",)), (("b",), ())))
