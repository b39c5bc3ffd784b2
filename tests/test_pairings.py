"""Points [1] and [2]: pairings."""

import itertools
import math

from crossloom.errors import BadGate, BadSize
from crossloom.pairings import (
    apart, behind, by_number, check_pairing, circles, figures, filled, from_figures, how_many, is_even, is_full,
    is_order, logarithm, mirrored, number_of, power_of_two, shuffled, turned_over)
from tests.every import Case, all_pairings, eight_gates, eight_gates_some_free, full_pairings


class CheckPairing(Case):
    def test_all_of_up_to_four_gates_are_told_as_tuples(self):
        for many in range(5):
            for pairs in all_pairings(many):
                self.same(self.both(check_pairing, pairs, many), pairs)

    def test_no_gates_and_one(self):
        self.same(self.both(check_pairing, (), 0), ())
        self.same(self.both(check_pairing, (0,), 1), (0,))
        self.same(self.both(check_pairing, (None,), 1), (None,))

    def test_what_is_handed_in_as_a_list_is_not_what_is_told(self):
        pairs = [1, None]
        self.same(check_pairing(pairs, 2), (1, None))
        self.same(pairs, [1, None])

    def test_gates_that_are_not_there(self):
        for pairs, many in (((0, 2), 2), ((0, -1), 2), ((0,), 2), ((0, 1, 2), 2), ((), 1), ((0,), 0),
                            ((None, 7, None), 3), ((None, None), 3)):
            self.refused(BadGate, check_pairing, pairs, many)
            self.refused(BadGate, check_pairing, list(pairs), many)

    def test_gates_told_twice(self):
        for pairs in ((0, 0), (1, None, 1), (3, 2, 1, 3)):
            self.refused(BadGate, check_pairing, pairs, len(pairs))
            self.refused(BadGate, check_pairing, list(pairs), len(pairs))

    def test_all_rows_of_three_are_taken_just_where_they_are_pairings(self):
        right = all_pairings(3)
        for row in itertools.product((None, -1, 0, 1, 2, 3), repeat=3):
            if row in right:
                self.same(check_pairing(row, 3), row)
            else:
                self.refused(BadGate, check_pairing, row, 3)


class PutTogether(Case):
    def test_is_full(self):
        for many in range(5):
            for pairs in all_pairings(many):
                self.same(self.both(is_full, pairs), all(gate is not None for gate in pairs))

    def test_filled(self):
        self.same(self.both(filled, (None, 2, None, 0)), (1, 2, 3, 0))
        self.same(self.both(filled, (None, None, None)), (0, 1, 2))
        self.same(self.both(filled, ()), ())

    def test_filled_keeps_what_is_there_and_gives_free_gates_in_order(self):
        for pairs in all_pairings(4) + eight_gates_some_free():
            full = self.both(filled, pairs)
            self.assertEqual(sorted(full), list(range(len(pairs))))
            self.assertTrue(all(gate in (None, other) for gate, other in zip(pairs, full)))
            given = [other for gate, other in zip(pairs, full) if gate is None]
            self.assertEqual(given, sorted(given))
            self.same(type(full), tuple)

    def test_turned_over(self):
        self.same(self.both(turned_over, (2, None, 1)), (None, 2, 0))
        self.same(self.both(turned_over, ()), ())
        for pairs in all_pairings(4) + eight_gates_some_free():
            found = self.both(turned_over, pairs)
            wanted = [pairs.index(gate) if gate in pairs else None for gate in range(len(pairs))]
            self.same(found, tuple(wanted))

    def test_behind(self):
        self.same(self.both(lambda rows: behind(rows[0], rows[1]), ((1, None, 2), (2, 0, None))), (0, None, None))
        self.same(behind((), ()), ())
        for first in all_pairings(3):
            for second in all_pairings(3):
                found = self.both(lambda rows: behind(rows[0], rows[1]), (first, second))
                for one in range(3):
                    middle = first[one]
                    self.same(found[one], None if middle is None else second[middle])

    def test_behind_its_turned_over_a_pairing_leads_back(self):
        for pairs in full_pairings(4):
            self.same(behind(pairs, turned_over(pairs)), (0, 1, 2, 3))


class Circles(Case):
    def test_circles_from_their_lowest_gates(self):
        self.same(self.both(circles, (2, 3, 0, 1)), ((0, 2), (1, 3)))
        self.same(self.both(circles, (1, 2, 0, 3)), ((0, 1, 2), (3,)))
        self.same(self.both(circles, (2, 0, 1)), ((0, 2, 1),))
        self.same(self.both(circles, (0,)), ((0,),))
        self.same(self.both(circles, ()), ())

    def test_circles_of_all(self):
        for pairs in full_pairings(4) + eight_gates():
            found = self.both(circles, pairs)
            self.assertEqual(sorted(gate for row in found for gate in row), list(range(len(pairs))))
            self.assertEqual([row[0] for row in found], sorted(min(row) for row in found))
            for row in found:
                self.same(tuple(pairs[gate] for gate in row), row[1:] + row[:1])

    def test_is_even_by_exchanges_counted(self):
        for pairs in full_pairings(4) + full_pairings(1) + full_pairings(0) + eight_gates():
            turned = [1 for low, high in itertools.combinations(pairs, 2) if low > high]
            self.same(self.both(is_even, pairs), len(turned) % 2 == 0)


class Numbers(Case):
    def test_how_many(self):
        for many in range(12):
            self.same(how_many(many), math.factorial(many))

    def test_each_number_has_its_pairing_and_each_pairing_its_number(self):
        for many in range(6):
            for number, pairs in enumerate(full_pairings(many)):
                self.same(by_number(number, many), pairs)
                self.same(self.both(number_of, pairs), number)

    def test_the_first_and_the_last(self):
        for many in range(10):
            last = math.factorial(many) - 1
            self.same(by_number(0, many), tuple(range(many)))
            self.same(by_number(last, many), tuple(range(many))[::-1])
            self.same(number_of(tuple(range(many))), 0)
            self.same(number_of(tuple(range(many))[::-1]), last)

    def test_eight_gates(self):
        rows = full_pairings(8)
        for number in list(range(0, 40320, 331)) + [40319]:
            self.same(by_number(number, 8), rows[number])
            self.same(number_of(rows[number]), number)

    def test_numbers_that_no_pairing_has(self):
        for number, many in ((-1, 0), (1, 0), (1, 1), (2, 2), (24, 4), (25, 4), (-1, 4), (40320, 8)):
            self.refused(BadSize, by_number, number, many)


class Figures(Case):
    def test_logarithm_and_power(self):
        for count in range(20):
            self.same(power_of_two(count), 2 ** count)
            self.same(logarithm(2 ** count), count)

    def test_what_is_no_power_of_two(self):
        powers = [2 ** count for count in range(12)]
        for many in range(-9, 1030):
            if many not in powers:
                self.refused(BadSize, logarithm, many)

    def test_figures_highest_first(self):
        self.same(figures(6, 3), (1, 1, 0))
        self.same(figures(1, 4), (0, 0, 0, 1))
        self.same(figures(0, 0), ())
        for count in range(6):
            for number in range(2 ** count):
                row = figures(number, count)
                self.same(row, tuple(int(sign) for sign in format(number, "b").zfill(count)) if count else ())
                self.same(self.both(from_figures, row), number)

    def test_the_shuffle_puts_the_highest_figure_last(self):
        self.same(shuffled(1), (0,))
        self.same(shuffled(2), (0, 1))
        self.same(shuffled(4), (0, 2, 1, 3))
        self.same(shuffled(8), (0, 2, 4, 6, 1, 3, 5, 7))
        for count in range(1, 6):
            for number, place in enumerate(shuffled(2 ** count)):
                signs = format(number, "b").zfill(count)
                self.same(place, int(signs[1:] + signs[0], 2))

    def test_the_mirror_turns_the_figures_round(self):
        self.same(mirrored(1), (0,))
        self.same(mirrored(2), (0, 1))
        self.same(mirrored(4), (0, 2, 1, 3))
        self.same(mirrored(8), (0, 4, 2, 6, 1, 5, 3, 7))
        for count in range(1, 6):
            for number, place in enumerate(mirrored(2 ** count)):
                self.same(place, int(format(number, "b").zfill(count)[::-1], 2))

    def test_other_numbers_of_gates(self):
        for many in (-1, 0, 3, 5, 6, 7, 12):
            self.refused(BadSize, shuffled, many)
            self.refused(BadSize, mirrored, many)


class Orders(Case):
    def test_is_order(self):
        for many in range(5):
            for pairs in all_pairings(many):
                taken = [gate for gate in pairs if gate is not None]
                self.same(self.both(is_order, pairs), taken == sorted(taken))

    def test_apart(self):
        for one in all_pairings(3):
            for other in all_pairings(3):
                wanted = sum(one[gate] != other[gate] for gate in range(3))
                self.same(self.both(lambda rows: apart(rows[0], rows[1]), (one, other)), wanted)
        self.same(apart((0, None), [0, None]), 0)
        self.same(apart((), ()), 0)
