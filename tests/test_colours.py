"""Points [1], [7] and [30]: calls coloured."""

import itertools
import random

from crossloom.colours import Calls, by_colour, check_colours, coloured
from crossloom.errors import BadPaper, BadSize
from tests.every import Case, as_lists


def some_rows():
    """Return rows of calls, (calls, left, right): all of up to four between two and two gates, and greater ones."""
    pairs = list(itertools.product(range(2), repeat=2))
    found = [(row, 2, 2) for size in range(5) for row in itertools.product(pairs, repeat=size)]
    draws = random.Random(7)
    for left, right, size in ((3, 3, 7), (4, 4, 12), (5, 3, 11), (3, 6, 14), (1, 4, 6), (6, 6, 18), (8, 8, 40)):
        for _ in range(25):
            row = [(draws.randrange(left), draws.randrange(right)) for _ in range(size)]
            found.append((tuple(row), left, right))
    return found


def most_at(calls):
    """Return the most calls at any gate, made without the program."""
    ends = [(side, call[side]) for call in calls for side in (0, 1)]
    return max([ends.count(end) for end in ends], default=0)


def are_unlike(calls, colours):
    """Tell whether no gate has a colour twice, made without the program."""
    spots = [(side, call[side], colour) for call, colour in zip(calls, colours) if colour is not None
             for side in (0, 1)]
    return len(spots) == len(set(spots))


def slow_colour(calls, colours, number):
    """Return the colours behind a call's colouring and the calls that changed, by point [7]'s words."""
    def held(side, gate):
        return {colours[other]: other for other in range(len(calls))
                if calls[other][side] == gate and colours[other] is not None}
    one, other = calls[number]
    mine = min(colour for colour in range(len(calls) + 1) if colour not in held(0, one))
    theirs = min(colour for colour in range(len(calls) + 1) if colour not in held(1, other))
    way = []
    if mine != theirs:
        side, gate, wanted = 1, other, mine
        while wanted in held(side, gate):
            way.append(held(side, gate)[wanted])
            side = 1 - side
            gate = calls[way[-1]][side]
            wanted = theirs if wanted == mine else mine
    found = list(colours)
    for changed in way:
        found[changed] = theirs if colours[changed] == mine else mine
    found[number] = mine
    return found, tuple(way)


class Fields(Case):
    def test_fields(self):
        for calls in (((0, 1), (1, 0), (0, 1)), [[0, 1], (1, 0), [0, 1]]):
            before = as_lists(calls)
            made = Calls(calls, 2, 3)
            self.same((made.calls, made.left, made.right), (((0, 1), (1, 0), (0, 1)), 2, 3))
            self.same(made.colours, [None, None, None])
            self.assertEqual(as_lists(calls), before)

    def test_calls_that_are_not_there(self):
        for calls, left, right in ((((2, 0),), 2, 3), (((0, 3),), 2, 3), (((-1, 0),), 2, 3), (((0, -1),), 2, 3),
                                   (((0, 0),), 0, 1), (((0, 0),), 1, 0), (((0, 0), (1, 2), (1, 3)), 2, 3)):
            for kind in (tuple, as_lists):
                self.refused(BadSize, Calls, kind(calls), left, right)
                self.refused(BadSize, coloured, kind(calls), left, right)

    def test_no_calls(self):
        self.same(Calls((), 0, 0).most_calls(), 0)
        self.same(Calls([], 2, 2).colour_all(), ())
        self.same(coloured([], 0, 0), ())
        self.same(by_colour([], [], 2), ((), ()))
        self.same(by_colour([], [], 0), ())
        self.same(check_colours([], (), 0), True)


class Colouring(Case):
    def test_most_calls(self):
        for calls, left, right in some_rows():
            self.same(Calls(calls, left, right).most_calls(), most_at(calls))

    def test_as_few_colours_as_the_most_calls_at_any_gate(self):
        for calls, left, right in some_rows():
            found = self.both(coloured, calls, left, right)
            most = most_at(calls)
            self.assertTrue(are_unlike(calls, found))
            self.assertTrue(all(0 <= colour < most for colour in found))
            self.same(self.both(lambda rows: check_colours(rows[0], rows[1], most), (calls, found)), True)
            made = Calls(calls, left, right)
            self.same(made.colour_all(), found)
            self.same(made.colours, list(found))
            self.same(made.colour_all(), found)

    def test_each_call_changes_what_the_words_say(self):
        exchanged = 0
        for calls, left, right in some_rows():
            made = Calls(calls, left, right)
            for number in range(len(calls)):
                before = list(made.colours)
                wanted, way = slow_colour(calls, before, number)
                self.same(made.colour(number, most_at(calls)), way)
                self.same(made.colours, wanted)
                self.one_way(calls, before, wanted, way, number)
                exchanged = max(exchanged, len(way))
        self.assertGreater(exchanged, 4)

    def one_way(self, calls, before, behind, way, number):
        changed = [at for at in range(len(calls)) if before[at] != behind[at] and at != number]
        self.assertEqual(sorted(way), changed)
        self.assertLessEqual(len({before[at] for at in way}), 2)
        self.assertTrue(all({before[at], behind[at]} >= {before[at] for at in way} for at in way))
        side = 1
        end = calls[number][1]
        for at in way:
            self.assertEqual(calls[at][side], end)
            side = 1 - side
            end = calls[at][side]

    def test_exchanges_on_both_sides(self):
        made = Calls(((0, 0), (0, 1), (1, 0), (1, 2), (2, 1)), 3, 3)
        self.same([made.colour(number, 2) for number in range(2)], [(), ()])
        self.same(made.colours, [0, 1, None, None, None])
        # Gate 1 has 0 free, gate 0 on the right 1: the way goes from there by 0 to gate 0, and on by 1.
        self.same(made.colour(2, 2), (0, 1))
        self.same(made.colours, [1, 0, 0, None, None])
        self.same(made.colour(3, 2), ())
        self.same(made.colours, [1, 0, 0, 1, None])
        # From gate 1 on the right the way goes to both sides by turns, till no call goes on.
        self.same(made.colour(4, 2), (1, 0, 2, 3))
        self.same(made.colours, [0, 1, 1, 0, 0])

    def test_unlike_first_colours_where_no_call_changes(self):
        # The left end's first free colour is free at the right end too, though not the first there.
        made = Calls(((0, 0), (0, 1)), 1, 2)
        self.same([made.colour(number, 2) for number in range(2)], [(), ()])
        self.same(made.colours, [0, 1])

    def test_calls_told_more_than_once(self):
        self.same(coloured(((0, 0), (0, 0), (0, 0)), 1, 1), (0, 1, 2))
        self.same(coloured([(1, 2), [1, 2]], 2, 3), (0, 1))

    def test_other_colours_given_before_are_taken_away(self):
        made = Calls(((0, 0), (1, 0), (1, 1)), 2, 2)
        made.colour(2, 5)
        made.colour(1, 5)
        self.same(made.colours, [None, 1, 0])
        self.same(made.colour_all(), coloured(made.calls, 2, 2))
        self.same(made.colours, [1, 0, 1])

    def test_a_full_gate(self):
        for calls, many in ((((0, 0), (0, 1)), 1), (((0, 0), (1, 0)), 1), (((0, 0), (0, 1), (0, 2)), 2),
                            (((0, 0),), 0), (((0, 0), (1, 0), (2, 0)), 2)):
            made = Calls(calls, 3, 3)
            for number in range(len(calls) - 1):
                made.colour(number, many)
            self.refused(BadSize, made.colour, len(calls) - 1, many)


class Ways(Case):
    def setUp(self):
        # A way from gate 3 on the right: calls 0, 1, 2, 3 with colours 0, 1, 0, 1; calls 4 and 5 stand apart.
        self.calls = Calls(((0, 3), (0, 1), (1, 1), (1, 2), (2, 0), (0, 0)), 3, 4)
        self.calls.colours = [0, 1, 0, 1, 0, 2]

    def test_at_and_first_free(self):
        self.same([self.calls.at(0, 0, colour) for colour in range(4)], [0, 1, 5, None])
        self.same([self.calls.at(1, 1, colour) for colour in range(3)], [2, 1, None])
        self.same([self.calls.at(1, 3, colour) for colour in range(2)], [0, None])
        self.same([self.calls.first_free(0, 0, many) for many in range(6)], [None, None, None, None, 3, 3])
        self.same([self.calls.first_free(1, gate, 3) for gate in range(4)], [1, 2, 0, 1])
        self.same([self.calls.first_free(1, gate, 1) for gate in range(4)], [None, None, 0, None])

    def test_exchange_along_the_whole_way(self):
        self.same(self.calls.exchange(3, 0, 1), (0, 1, 2, 3))
        self.same(self.calls.colours, [1, 0, 1, 0, 0, 2])

    def test_exchange_of_a_part_and_of_nothing(self):
        self.same(self.calls.exchange(1, 0, 1), (2, 3))
        self.same(self.calls.colours, [0, 1, 1, 0, 0, 2])
        self.same(self.calls.exchange(3, 1, 0), ())
        self.same(self.calls.exchange(0, 2, 0), (5, 0))
        self.same(self.calls.colours, [2, 1, 1, 0, 0, 0])

    def test_a_way_that_comes_back_and_one_of_one_colour(self):
        ring = Calls(((0, 0), (0, 1), (1, 1), (1, 0)), 2, 2)
        ring.colours = [0, 1, 0, 1]
        self.same(ring.exchange(0, 0, 1), (0, 1, 2, 3))
        self.same(ring.colours, [1, 0, 1, 0])
        self.same(ring.exchange(0, 1, 1), (0,))
        self.same(ring.colours, [1, 0, 1, 0])


class Papers(Case):
    def test_papers_taken_just_where_they_are_so(self):
        for calls in (((0, 0), (0, 1), (1, 0)), ((0, 0), (0, 0), (1, 1)), ((0, 2), (1, 2), (2, 2))):
            for colours in itertools.product((None, -1, 0, 1, 2, 3), repeat=3):
                told = all(colour in (0, 1, 2) for colour in colours)
                if told and are_unlike(calls, colours):
                    self.same(self.both(lambda rows: check_colours(rows[0], rows[1], 3), (calls, colours)), True)
                else:
                    self.refused(BadPaper, check_colours, calls, colours, 3)
                    self.refused(BadPaper, check_colours, as_lists(calls), list(colours), 3)

    def test_papers_of_another_length(self):
        self.refused(BadPaper, check_colours, ((0, 0),), (), 3)
        self.refused(BadPaper, check_colours, ((0, 0),), (0, 1), 3)
        self.refused(BadPaper, check_colours, (), (0,), 3)

    def test_the_calls_of_each_colour(self):
        calls = ((0, 0), (1, 1), (0, 1), (1, 0), (1, 1))
        found = self.both(lambda rows: by_colour(rows[0], rows[1], 4), (calls, (0, 0, 1, 1, 3)))
        self.same(found, (((0, 0), (1, 1)), ((0, 1), (1, 0)), (), ((1, 1),)))
        self.same(by_colour([[0, 1]], [None], 1), ((),))
