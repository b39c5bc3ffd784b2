"""Points [1] and [20]: fairs."""

import itertools
import math
from fractions import Fraction

from crossloom.errors import BadPaper, BadRate
from crossloom.fairs import check_fair, check_flows, less, link_load, necks, next_full, rates, shared, small
from tests.every import Case, as_lists, as_tuples

# All flows over up to three links, and some rooms of three links, one of nought among them.
FLOWS = [row for count in (1, 2, 3) for row in itertools.combinations(range(3), count)]
ROOMS = [(1, 2, 3), (4, 1, 4), (0, 5, 2), (6, 6, 1)]


def some_flows():
    """Return rows of up to four flows over three links."""
    for count in range(5):
        yield from list(itertools.combinations_with_replacement(FLOWS, count))[::1 + 6 * (count == 4)]


def slow_rates(flows, rooms):
    """Return fair rates by raising all open flows by the greatest step that fits, again and again."""
    given = [Fraction(0)] * len(flows)
    still = set(range(len(flows)))
    while still:
        steps = []
        for link, room in enumerate(rooms):
            mine = [number for number in still if link in flows[number]]
            used = sum(given[number] for number, flow in enumerate(flows) if link in flow)
            if mine:
                steps.append((Fraction(room) - used) / len(mine))
        for number in still:
            given[number] += min(steps)
        for link, room in enumerate(rooms):
            if sum(given[number] for number, flow in enumerate(flows) if link in flow) == room:
                still -= {number for number in still if link in flows[number]}
    return tuple((rate.numerator, rate.denominator) for rate in given)


def is_fair(flows, rooms, given, links):
    """Tell whether rates and links show, by the words of point [20], that the rates are fair."""
    loads = [sum(Fraction(*rate) for flow, rate in zip(flows, given) if link in flow) for link in range(len(rooms))]
    if any(load > room for load, room in zip(loads, rooms)):
        return False
    for flow, rate, link in zip(flows, given, links):
        if link not in flow or loads[link] != rooms[link]:
            return False
        if any(link in other and Fraction(*more) > Fraction(*rate) for other, more in zip(flows, given)):
            return False
    return True


class Parts(Case):
    def test_made_small(self):
        for top, low in itertools.product(range(-6, 13), range(1, 13)):
            found = Fraction(top, low)
            self.same(small(top, low), (found.numerator, found.denominator))
        self.same([small(0, 7), small(6, 4), small(4, 1)], [(0, 1), (3, 2), (4, 1)])

    def test_shared(self):
        for one, other in itertools.product(range(1, 25), repeat=2):
            wanted = max(number for number in range(1, 25) if one % number == 0 and other % number == 0)
            self.same(shared(one, other), wanted)
        self.same([shared(0, 5), shared(5, 0)], [5, 5])

    def test_less(self):
        parts = [(top, low) for top in range(4) for low in range(1, 5)]
        for one, other in itertools.product(parts, repeat=2):
            self.same(less(one, other), Fraction(*one) < Fraction(*other))
            self.same(less(list(one), list(other)), Fraction(*one) < Fraction(*other))


class Flows(Case):
    def test_links_of_each_in_order(self):
        self.same(self.both(lambda rows: check_flows(rows, (1, 2, 0)), ((2, 0), (1,), (0, 2, 1))),
                  [(0, 2), (1,), (0, 1, 2)])
        self.same([check_flows((), ()), check_flows([], [3])], [[], []])

    def test_refused(self):
        rows = [(((),), (1,)), (((0,), ()), (1,)), (((1,),), (1,)), (((0, -1),), (1, 1)), (((0,),), ()),
                (((0,),), (1, -1)), ((), (-1,)), (((0,),), (-1,))]
        for flows, rooms in rows:
            for call in (check_flows, rates):
                self.refused(BadRate, call, flows, rooms)
                self.refused(BadRate, call, as_lists(flows), list(rooms))


class Rates(Case):
    def test_worked_by_hand(self):
        # Flow 0 goes over both links: link 1 gives it a third of two, link 0 leaves the rest to flow 1.
        found = self.both(lambda rows: rates(rows, (5, 2)), ((0, 1), (0,), (1,), (1,)))
        self.same(found, ((2, 3), (13, 3), (2, 3), (2, 3)))
        self.same(rates(((0,), (0,)), (3,)), ((3, 2), (3, 2)))
        self.same(rates(((0, 1), (0,), (1,)), (1, 2)), ((1, 2), (1, 2), (3, 2)))
        self.same(rates(((0, 1, 2), (0,), (1,), (2,)), (1, 1, 1)), ((1, 2),) * 4)

    def test_edges(self):
        self.same([rates((), ()), rates((), (4, 0)), rates(((0,),), (4,)), rates(((1,),), (9, 6))],
                  [(), (), ((4, 1),), ((6, 1),)])
        # A room of nought: all that goes over it stays at nought, the others go on.
        self.same(rates(((0, 1), (1,)), (0, 3)), ((0, 1), (3, 1)))
        # A link that no flow uses.
        self.same(rates(((2,), (2,)), (0, 1, 4)), ((2, 1), (2, 1)))

    def test_against_rising_step_by_step(self):
        for rooms in ROOMS:
            for flows in some_flows():
                self.same(rates(flows, rooms), slow_rates(flows, rooms))

    def test_they_fit_and_each_has_a_full_link_on_which_none_has_more(self):
        for rooms in ROOMS:
            for flows in some_flows():
                given = self.both(lambda rows: rates(rows, rooms), flows)
                links = necks(flows, rooms, given)
                self.assertTrue(is_fair(flows, rooms, given, links))
                self.same(check_fair(flows, rooms, given, links), True)
                self.same(check_fair(as_lists(flows), list(rooms), as_lists(given), list(links)), True)
                for top, low in given:
                    self.assertEqual(math.gcd(top, low), 1)

    def test_the_next_link_to_be_full(self):
        found = ((0,), (0, 1), (1,), (1,))
        self.same(next_full([(5, 2), (4, 1)], [0, 1, 2, 3], found), ((5, 4), (0,)))
        self.same(next_full([(5, 2), (4, 1)], [0, 2, 3], found), ((2, 1), (1,)))
        self.same(next_full([[2, 1], [3, 1]], [0, 1, 2, 3], as_lists(found)), ((1, 1), (0, 1)))
        self.same(next_full([(0, 1), (4, 1)], [2], found), ((4, 1), (1,)))


class Loads(Case):
    def test_worked_by_hand(self):
        flows = ((0,), (0, 1), (1,))
        given = ((1, 2), (1, 3), (1, 6))
        self.same([self.both(lambda rows: link_load(rows, given, link), flows) for link in range(3)],
                  [(5, 6), (1, 2), (0, 1)])
        self.same(link_load((), (), 0), (0, 1))

    def test_added_up(self):
        for rooms in ROOMS:
            for flows in some_flows():
                given = rates(flows, rooms)
                for link in range(3):
                    wanted = sum((Fraction(*rate) for flow, rate in zip(flows, given) if link in flow), Fraction(0))
                    self.same(link_load(flows, given, link), (wanted.numerator, wanted.denominator))


class Necks(Case):
    def test_worked_by_hand(self):
        flows, rooms = ((0, 1), (0,), (1,), (1,)), (5, 2)
        given = rates(flows, rooms)
        self.same(self.both(lambda rows: necks(rows, rooms, given), flows), (1, 0, 1, 1))
        # Both links are full, and the first is told.
        self.same(necks(((0, 1),), (2, 2), ((2, 1),)), (0,))
        self.same(necks(((1, 0),), (2, 2), ((2, 1),)), (0,))
        self.same(necks((), (1,), ()), ())

    def test_none_where_the_rates_are_not_fair(self):
        self.same(necks(((0,), (0,)), (3,), ((1, 1), (1, 1))), (None, None))
        self.same(necks(((0,), (0,)), (3,), ((1, 1), (2, 1))), (None, 0))


class Papers(Case):
    def test_taken_just_where_they_are_so(self):
        parts = [(0, 1), (1, 2), (1, 1), (3, 2), (2, 1)]
        seen = set()
        for flows in (((0,), (0,)), ((0, 1), (1,)), ((0, 1), (0,))):
            for rooms in ((1, 2), (2, 2), (3, 1), (0, 1)):
                for given in itertools.product(parts, repeat=2):
                    for links in itertools.product((0, 1), repeat=2):
                        seen.add(self.told(flows, rooms, given, links))
        self.assertEqual(seen, {True, False})

    def told(self, flows, rooms, given, links):
        """Hold a paper against the words, and return whether it is taken."""
        wanted = is_fair(flows, rooms, given, links)
        if wanted:
            self.same(check_fair(flows, rooms, given, links), True)
        else:
            self.refused(BadPaper, check_fair, flows, rooms, given, links)
            self.refused(BadPaper, check_fair, as_lists(flows), as_lists(rooms), as_lists(given), as_lists(links))
        return wanted

    def test_only_fair_rates_have_a_paper(self):
        flows, rooms = ((0, 1), (0,), (1,)), (1, 2)
        fair = rates(flows, rooms)
        parts = sorted({small(top, low) for top in range(5) for low in (1, 2)})
        for given in itertools.product(parts, repeat=3):
            papers = [links for links in itertools.product((0, 1), repeat=3) if is_fair(flows, rooms, given, links)]
            self.assertEqual(papers != [], given == fair)
            for links in papers:
                self.same(check_fair(flows, rooms, given, links), True)

    def test_another_count_or_no_link(self):
        flows, rooms = ((0,), (0, 1)), (2, 5)
        given, links = rates(flows, rooms), (0, 0)
        self.same(check_fair(flows, rooms, given, links), True)
        for rates_told, links_told in ((given[:1], links), (given, links[:1]), (given + given, links), ((), ()),
                                       (given, (0, None)), (given, (1, 0)), (given, (0, 1)), (given, (0, 7))):
            self.refused(BadPaper, check_fair, flows, rooms, rates_told, links_told)
        self.same(check_fair((), (0, 1), (), ()), True)
        # A rate that fits each flow's own link, but is too much for another one.
        self.refused(BadPaper, check_fair, ((0, 1),), (2, 1), ((2, 1),), (0,))

    def test_as_tuples_and_as_lists(self):
        flows, rooms = [[1, 0], [0]], [3, 1]
        self.same(check_fair(flows, rooms, rates(flows, rooms), [1, 0]), True)
        self.same(check_fair(as_tuples(flows), (3, 1), [[1, 1], [2, 1]], (1, 0)), True)
