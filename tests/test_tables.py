"""Points [1] and [29]: tables."""

import itertools

from crossloom.banyans import plain_net
from crossloom.benes import net_of
from crossloom.errors import BadNet, BadSize
from crossloom.sorters import bitonic, layers, odd_even, sorts_all
from crossloom.tables import (cheaper, comparers, elements_of_banyan, glance, joints_of_crossbar, joints_of_rows,
                              least_joints)
from tests.every import Case

NO_POWERS = (3, 5, 6, 7, 12)


def counted_joints(middle, gates, switches):
    """Return how many joints three rows have, one for each pair of ends within each switch, told one by one."""
    found = 0
    for _, _, _ in itertools.product(range(switches), range(gates), range(middle)):
        found += 2
    for _, _, _ in itertools.product(range(middle), range(switches), range(switches)):
        found += 1
    return found


def tried_rows(many, moving):
    """Return (joints, gates a switch) of all three rows of so many gates."""
    sizes = [(gates, many // gates) for gates in range(1, many + 1) if many // gates * gates == many]
    return [(counted_joints(gates if moving else 2 * gates - 1, gates, switches), gates) for gates, switches in sizes]


class Joints(Case):
    def test_crossbars(self):
        for many in range(1, 20):
            self.same(joints_of_crossbar(many), sum(1 for _ in itertools.product(range(many), repeat=2)))
        for many in (0, -1, -8):
            self.refused(BadSize, joints_of_crossbar, many)

    def test_three_rows(self):
        for told in itertools.product(range(1, 6), repeat=3):
            self.same(joints_of_rows(*told), counted_joints(*told))
        self.same([joints_of_rows(1, 1, 1), joints_of_rows(3, 2, 2), joints_of_rows(2, 3, 4)], [3, 36, 80])
        for told in itertools.product((-1, 0, 2), repeat=3):
            if min(told) < 1:
                self.refused(BadSize, joints_of_rows, *told)

    def test_the_least_by_trying_all(self):
        for many in list(range(1, 41)) + [64, 100]:
            for moving in (True, False):
                self.same(least_joints(many, moving), min(tried_rows(many, moving)))
        for many in (0, -1):
            for moving in (True, False):
                self.refused(BadSize, least_joints, many, moving)

    def test_worked_by_hand(self):
        self.same([least_joints(1, True), least_joints(1, False)], [(3, 1), (3, 1)])
        # Of 36 gates: twelve switches of three gates with five middle ones have 1080, nine of four with seven 1071.
        self.same([joints_of_rows(5, 3, 12), joints_of_rows(7, 4, 9), joints_of_rows(11, 6, 6)], [1080, 1071, 1188])
        self.same([least_joints(36, False), least_joints(36, True)], [(1071, 4), (612, 4)])

    def test_the_fewest_gates_of_alike_ones(self):
        seen = False
        for many in range(1, 80):
            for moving in (True, False):
                rows = tried_rows(many, moving)
                least = [gates for joints, gates in rows if joints == min(rows)[0]]
                self.same(least_joints(many, moving)[1], least[0])
                seen = seen or len(least) > 1
        self.assertTrue(seen)

    def test_cheaper(self):
        for many in range(1, 60):
            rows = min(tried_rows(many, False))[0]
            self.same(cheaper(many), "rows" if rows < many * many else "crossbar")
        self.same([cheaper(1), cheaper(16), cheaper(36), cheaper(23)], ["crossbar", "crossbar", "rows", "crossbar"])
        for many in (0, -1):
            self.refused(BadSize, cheaper, many)


class Nets(Case):
    def test_banyans(self):
        for many in (2, 4, 8, 16):
            net = plain_net(many)
            self.same(elements_of_banyan(many), (net.stages(), net.count()))
        self.same(elements_of_banyan(1), (0, 0))
        for many in NO_POWERS + (0, -4):
            self.refused(BadSize, elements_of_banyan, many)

    def test_comparers(self):
        for many in (1, 2, 4, 8, 16):
            self.same(comparers(many), tuple((len(net), len(layers(net))) for net in (odd_even(many), bitonic(many))))
        self.assertTrue(sorts_all(odd_even(8), 8) and sorts_all(bitonic(8), 8))
        self.same([comparers(1), comparers(2), comparers(4), comparers(8)],
                  [((0, 0), (0, 0)), ((1, 1), (1, 1)), ((5, 3), (6, 3)), ((19, 6), (24, 6))])
        for many in NO_POWERS + (0, -4):
            self.refused(BadSize, comparers, many)

    def test_at_a_glance(self):
        for many in (2, 4, 8, 16):
            net = net_of(many)
            pairings = 1
            for count in range(2, many + 1):
                pairings *= count
            least = next(count for count in range(200) if 2 ** count >= pairings)
            self.same(glance(many), (many * many, min(tried_rows(many, False)), min(tried_rows(many, True)),
                                     (plain_net(many).stages(), plain_net(many).count()), (net.stages(), net.count()),
                                     least, comparers(many)))
        self.same(glance(2), (4, (8, 1), (8, 1), (1, 1), (1, 1), 1, ((1, 1), (1, 1))))
        for many in NO_POWERS + (0, -4):
            self.refused(BadSize, glance, many)
        self.refused(BadNet, glance, 1)
