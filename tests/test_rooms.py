"""Points [1], [21] and [30]: rooms."""

import itertools
import random

from crossloom.errors import BadSize
from crossloom.rooms import Room, best_sent, sent_by, sent_once, with_cell
from tests.every import Case, as_lists


class SlowRoom:
    """A room by point [21]'s words, each cell by itself."""

    def __init__(self, gates, most):
        self.gates, self.most = gates, most
        self.cells = []
        self.lost = self.sent = 0

    def count(self, gate):
        return self.cells.count(gate)

    def waiting(self):
        return [self.count(gate) for gate in range(self.gates)]

    def put(self, gate, pushing=False):
        if len(self.cells) == self.most and pushing:
            longest = sorted(range(self.gates), key=lambda other: (-self.count(other), other))[0]
            if self.count(longest) - self.count(gate) >= 2:
                self.cells.remove(longest)
                self.lost += 1
        return self.keep(gate, len(self.cells) < self.most)

    def put_within(self, gate, times):
        return self.keep(gate, self.count(gate) < times * (self.most - len(self.cells)))

    def keep(self, gate, kept):
        self.cells += [gate] if kept else []
        self.lost += not kept
        return kept

    def send(self):
        found = tuple(sorted(set(self.cells)))
        for gate in found:
            self.cells.remove(gate)
        self.sent += len(found)
        return found


def tried_all(gates, most, arrivals):
    """Return the most sent over every choice of cells thrown away when they come, rooms never too full."""
    cells = [(slot, gate) for slot, row in enumerate(arrivals) for gate in row]
    best = 0
    for kept in itertools.product((True, False), repeat=len(cells)):
        waiting = [0] * gates
        sent = 0
        fits = True
        for slot in range(len(arrivals)):
            for (when, gate), keep in zip(cells, kept):
                waiting[gate] += when == slot and keep
            # Within a slot cells only come, so that the room is the fullest at its end.
            fits = fits and sum(waiting) <= most
            sent += sum(count > 0 for count in waiting)
            waiting = [max(count - 1, 0) for count in waiting]
        if fits:
            best = max(best, sent + sum(waiting))
    return best


def drawn_arrivals(gates, slots, cells, draws):
    """Return rows of drawn gates, slot by slot."""
    found = [[] for _ in range(slots)]
    for _ in range(cells):
        found[draws.randrange(slots)].append(draws.randrange(gates))
    return found


class Fields(Case):
    def test_fields(self):
        room = Room(3, 5)
        self.same((room.most, room.waiting, room.lost, room.sent), (5, [0, 0, 0], 0, 0))
        self.same((room.full(), room.longest()), (False, 0))

    def test_refused(self):
        for gates, most in ((0, 3), (-1, 3), (2, -1), (0, -1)):
            self.refused(BadSize, Room, gates, most)
            self.refused(BadSize, sent_by, gates, most, (), True)
            self.refused(BadSize, sent_by, gates, most, [[0]], False)


class Cells(Case):
    def test_worked_by_hand(self):
        room = Room(2, 3)
        self.same([room.put(0), room.put(0), room.full(), room.put(0), room.full()], [True, True, False, True, True])
        self.same([room.put(1), room.waiting, room.lost, room.longest()], [False, [3, 0], 1, 0])
        # A cell of gate 0 goes out, and is lost; then gate 0 is longer by one only.
        self.same([room.put_pushing(1), room.waiting, room.lost], [None, [2, 1], 2])
        self.same([room.put_pushing(1), room.waiting, room.lost], [None, [2, 1], 3])
        self.same([room.put_pushing(0), room.waiting, room.lost], [None, [2, 1], 4])
        self.same([room.send(), room.waiting, room.sent], [(0, 1), [1, 0], 2])
        self.same([room.put_pushing(1), room.waiting, room.lost], [None, [1, 1], 4])
        self.same([room.send(), room.send(), room.sent, room.waiting], [(0, 1), (), 4, [0, 0]])

    def test_the_first_of_the_longest_is_pushed(self):
        room = Room(3, 4)
        for gate in (1, 1, 2, 2):
            room.put(gate)
        self.same(room.longest(), 1)
        room.put_pushing(0)
        self.same((room.waiting, room.lost), ([1, 1, 2], 1))
        self.same(room.longest(), 2)

    def test_within_a_part(self):
        room = Room(2, 6)
        # With one time the free places gate 0 gets three: then as many are free as wait.
        self.same([room.put_within(0, 1) for _ in range(5)], [True, True, True, False, False])
        self.same((room.waiting, room.lost), ([3, 0], 2))
        self.same([room.put_within(1, 1) for _ in range(3)], [True, True, False])
        self.same([room.put_within(1, 2), room.put_within(1, 3), room.waiting], [False, True, [3, 3]])
        self.same([room.put_within(0, 99), room.lost], [False, 5])
        self.same([Room(1, 3).put_within(0, 0), Room(1, 0).put_within(0, 5)], [False, False])
        # A part of the free places, told as (top, low).
        half = Room(1, 6)
        self.same([half.put_within(0, (1, 2)) for _ in range(4)], [True, True, False, False])

    def test_a_room_of_nought(self):
        room = Room(2, 0)
        self.same([room.full(), room.put(0), room.put_pushing(1), room.send()], [True, False, None, ()])
        self.same((room.waiting, room.lost, room.sent), ([0, 0], 2, 0))

    def test_one_gate_never_pushes(self):
        room = Room(1, 2)
        for _ in range(4):
            room.put_pushing(0)
        self.same((room.waiting, room.lost, room.full()), ([2], 2, True))

    def test_slot_by_slot_by_the_words(self):
        draws = random.Random(61)
        for number in range(150):
            gates, most = draws.randint(1, 4), draws.randint(0, 7)
            room, slow = Room(gates, most), SlowRoom(gates, most)
            came = 0
            for _ in range(60):
                gate, word = draws.randrange(gates), draws.choice(("put", "push", "push", "within", "send"))
                came += word != "send"
                if word == "put":
                    self.same(room.put(gate), slow.put(gate))
                elif word == "push":
                    self.same(room.put_pushing(gate), None)
                    slow.put(gate, True)
                elif word == "within":
                    times = draws.randint(0, 3)
                    self.same(room.put_within(gate, times), slow.put_within(gate, times))
                else:
                    self.same(room.send(), slow.send())
                self.same((room.waiting, room.lost, room.sent), (slow.waiting(), slow.lost, slow.sent))
                self.same(room.full(), len(slow.cells) >= most)
                self.same(came, room.lost + room.sent + sum(room.waiting))
                self.assertLessEqual(sum(room.waiting), most)


class Sent(Case):
    def test_worked_by_hand(self):
        arrivals = ((0, 0, 1), (), (1, 1))
        self.same(self.both(lambda rows: sent_by(2, 2, rows, False), arrivals), 4)
        self.same(self.both(lambda rows: sent_by(2, 2, rows, True), arrivals), 4)
        self.same([sent_by(2, 1, ((0, 1), (1, 1)), pushing) for pushing in (False, True)], [2, 2])
        self.same([sent_by(2, 0, arrivals, True), sent_by(1, 3, (), True), sent_by(1, 9, ((0, 0, 0),), False)], [0, 0, 3])
        # Pushing keeps gate 1's cell in place of the third one of gate 0.
        self.same([sent_by(2, 3, ((0, 0, 0, 1), (0, 0)), pushing) for pushing in (False, True)], [4, 5])

    def test_slot_by_slot(self):
        draws = random.Random(62)
        for number in range(200):
            gates, most, pushing = draws.randint(1, 3), draws.randint(0, 5), draws.choice((True, False))
            arrivals = drawn_arrivals(gates, draws.randint(1, 5), draws.randint(0, 14), draws)
            slow = SlowRoom(gates, most)
            for row in arrivals:
                for gate in row:
                    slow.put(gate, pushing)
                slow.send()
            while slow.cells:
                slow.send()
            self.same(sent_by(gates, most, arrivals, pushing), slow.sent)

    def test_where_all_fits_nothing_is_lost(self):
        draws = random.Random(63)
        for number in range(60):
            arrivals = drawn_arrivals(3, 4, number % 13, draws)
            for pushing in (True, False):
                self.same(sent_by(3, 12, arrivals, pushing), number % 13)
            self.same(best_sent(3, 12, arrivals), number % 13)


class Best(Case):
    def test_by_trying_all(self):
        draws = random.Random(64)
        for number in range(150):
            gates, most = draws.randint(1, 3), draws.randint(0, 4)
            arrivals = drawn_arrivals(gates, draws.randint(1, 4), draws.randint(0, 9), draws)
            found = self.both(lambda rows: best_sent(gates, most, rows), arrivals)
            self.same(found, tried_all(gates, most, arrivals))

    def test_pushing_sends_half_of_it_at_least(self):
        draws = random.Random(65)
        told = set()
        for number in range(400):
            gates, most = draws.randint(1, 3), draws.randint(0, 5)
            arrivals = drawn_arrivals(gates, draws.randint(1, 5), draws.randint(0, 12), draws)
            best = best_sent(gates, most, arrivals)
            pushed = sent_by(gates, most, arrivals, True)
            self.assertLessEqual(best, 2 * pushed)
            for pushing in (True, False):
                self.assertLessEqual(sent_by(gates, most, arrivals, pushing), best)
            told.add(pushed < best)
        self.assertEqual(told, {True, False})

    def test_for_up_to_a_dozen_cells(self):
        self.same(best_sent(1, 12, ((0,) * 12,)), 12)
        self.same(best_sent(2, 1, ((0, 1) * 6,)), 1)
        for arrivals in (((0,) * 13,), ((0,),) * 13, ((0,) * 6, (1,) * 7)):
            self.refused(BadSize, best_sent, 2, 3, arrivals)
            self.refused(BadSize, best_sent, 2, 3, as_lists(arrivals))
        self.same([best_sent(1, 0, ((0,),)), best_sent(2, 5, ()), best_sent(3, 2, ((), ()))], [0, 0, 0])

    def test_states(self):
        self.same(with_cell({(0, 0): 0}, 1, 1), {(0, 0): 0, (0, 1): 0})
        self.same(with_cell({(0, 1): 4}, 1, 1), {(0, 1): 4})
        # Of two ways to a state the one that sent more is told.
        self.same(with_cell({(0,): 5, (1,): 3}, 0, 2), {(0,): 5, (1,): 5, (2,): 3})
        self.same(sent_once({(0, 0): 1, (0, 2): 1, (3, 1): 0}), {(0, 0): 1, (0, 1): 2, (2, 0): 2})
        self.same(sent_once({(1, 0): 0, (0, 0): 2}), {(0, 0): 2})
        self.same([with_cell({}, 0, 1), sent_once({})], [{}, {}])

    def test_states_handed_in_stay_as_they_are(self):
        states = {(0, 1): 2, (1, 0): 1}
        with_cell(states, 0, 3)
        sent_once(states)
        self.same(states, {(0, 1): 2, (1, 0): 1})
