"""Matches: which gates in send to which gates out in one slot, by turns, by draws, or as many as can be."""

from crossloom.errors import BadSize
from crossloom.pairings import turned_over


def check_wants(wants, many):
    """Return rows of wants, each gate in's gates out in order; BadSize for others."""
    found = [tuple(sorted(row)) for row in wants]
    if len(found) != many or any([not 0 <= gate < many for row in found for gate in row]):
        raise BadSize("a gate that isn't there")
    return found


def is_match(wants, match):
    """Tell whether a match gives each gate in what it wants, or nothing, and no gate out twice."""
    taken = [gate for gate in match if gate is not None]
    wanted = [gate is None or gate in row for row, gate in zip(wants, match)]
    return len(match) == len(wants) and all(wanted) and len(set(taken)) == len(taken)


def is_maximal(wants, match):
    """Tell whether no gate in without one wants a gate out that nobody has."""
    free = [row for row, gate in zip(wants, match) if gate is None]
    return all([gate in match for row in free for gate in row])


def next_of(ones, start, many):
    """Return the first of some from a number on, going round."""
    for step in range(many):
        number = (start + step) % many
        if number in ones:
            return number
    return None


class Turns:
    """Pointers of gates out, who is granted next, and of gates in, who is taken next."""

    def __init__(self, many):
        self.many = many
        self.grants = [0 for _ in range(many)]
        self.takes = [0 for _ in range(many)]

    def round(self, wants, match, first):
        """Let free gates out grant and free gates in take; pointers go on past who is taken in a first round."""
        granted = self.granted(wants, match)
        for one in range(self.many):
            if granted[one] != []:
                gate = next_of(granted[one], self.takes[one], self.many)
                match[one] = gate
                if first:
                    self.grants[gate] = (one + 1) % self.many
                    self.takes[one] = (gate + 1) % self.many

    def granted(self, wants, match):
        """Return, for each gate in, the free gates out that grant to it, in order."""
        found = [[] for _ in range(self.many)]
        for gate in range(self.many):
            asking = [one for one in range(self.many) if match[one] is None and gate in wants[one]]
            if gate not in match and asking != []:
                found[next_of(asking, self.grants[gate], self.many)].append(gate)
        return found

    def match(self, wants, rounds):
        """Return the match of so many rounds."""
        rows = check_wants(wants, self.many)
        found = [None for _ in range(self.many)]
        for number in range(rounds):
            self.round(rows, found, number == 0)
        return tuple(found)


def by_draws(wants, draws):
    """Return a full match: again and again the want at a draw's rest of those left, the first behind the draws."""
    rows = check_wants(wants, len(wants))
    found = [None for _ in rows]
    left = [(one, gate) for one, row in enumerate(rows) for gate in row]
    drawn = 0
    while left != []:
        place = draws[drawn] % len(left) if drawn < len(draws) else 0
        drawn += 1
        one, gate = left[place]
        found[one] = gate
        left = [want for want in left if want[0] != one and want[1] != gate]
    return tuple(found)


def greatest(wants):
    """Return a match with as many as can be."""
    rows = check_wants(wants, len(wants))
    owner = [None for _ in rows]
    for one in range(len(rows)):
        lengthen(rows, owner, one, {})
    return turned_over(owner)


def lengthen(wants, owner, one, seen):
    """Give one more gate in a gate out, others moved; return whether it can be."""
    for gate in wants[one]:
        if gate not in seen:
            seen[gate] = True
            if owner[gate] is None or lengthen(wants, owner, owner[gate], seen):
                owner[gate] = one
                return True
    return False


def heaviest(weights):
    """Return the match of the greatest weight in all, the first by gates; for up to five gates."""
    many = len(weights)
    if many > 5:
        raise BadSize("more gates than can be tried")
    best = tuple([None for _ in range(many)])
    for match in all_matches(many):
        if weight_of(weights, match) > weight_of(weights, best):
            best = match
    return best


def all_matches(many):
    """Return all matches of so many gates, the first by gates first, nothing ahead of any gate out."""
    found = [()]
    for _ in range(many):
        found = [row + (gate,) for row in found for gate in [None] + free_of(row, many)]
    return found


def free_of(row, many):
    """Return the gates out of so many that a row doesn't have, in order."""
    return [gate for gate in range(many) if gate not in row]


def weight_of(weights, match):
    """Return the weight of a match in all."""
    return sum([row[gate] for row, gate in zip(weights, match) if gate is not None])


def count(match):
    """Return how many gates in have one."""
    return len([gate for gate in match if gate is not None])
