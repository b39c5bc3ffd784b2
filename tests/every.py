"""What the tests share: all pairings of a few gates, rows in both kinds, and what is refused."""

import itertools
import unittest


def full_pairings(many):
    """Return all full pairings of so many gates, in order, made without the program."""
    return list(itertools.permutations(range(many)))


def with_free_gates(pairs):
    """Return a full pairing with each choice of its gates in left out."""
    for kept in itertools.product((True, False), repeat=len(pairs)):
        yield tuple(gate if keep else None for gate, keep in zip(pairs, kept))


def all_pairings(many):
    """Return all pairings of so many gates, some gates left out or none, each once."""
    return sorted({row for pairs in full_pairings(many) for row in with_free_gates(pairs)},
                  key=lambda row: [-1 if gate is None else gate for gate in row])


def eight_gates(step=97):
    """Return full pairings of eight gates, spread over all of them, the first and the last too."""
    rows = full_pairings(8)
    return rows[::step] + [rows[-1]]


def eight_gates_some_free(step=97):
    """Return pairings of eight gates with some gates left out, none and all left out too."""
    found = [(None,) * 8, tuple(range(8))]
    for number, pairs in enumerate(eight_gates(step)):
        found.append(tuple(None if (number * 37 + 11) >> gate & 1 else goal for gate, goal in enumerate(pairs)))
    return found


def as_lists(rows):
    """Return rows with each tuple made a list, all the way in."""
    return [as_lists(row) for row in rows] if isinstance(rows, (list, tuple)) else rows


def as_tuples(rows):
    """Return rows with each list made a tuple, all the way in."""
    return tuple(as_tuples(row) for row in rows) if isinstance(rows, (list, tuple)) else rows


def state(thing):
    """Return a copy of what can be seen of an object: its fields, and those of all objects in it."""
    if isinstance(thing, dict):
        return {key: state(one) for key, one in thing.items()}
    if isinstance(thing, (list, tuple)):
        return type(thing)(state(one) for one in thing)
    return state(vars(thing)) if hasattr(thing, "__dict__") else thing


class Case(unittest.TestCase):
    """A test with a few more words."""

    def same(self, found, wanted):
        """Fail unless two values are alike, in their kinds too: no list for a tuple, no True for one."""
        self.assertEqual(repr(found), repr(wanted))

    def refused(self, kind, call, *told):
        """Fail unless a call is refused with just this class, with all that is handed in unchanged."""
        owner = getattr(call, "__self__", None)
        before = [state(one) for one in told] + [state(owner)]
        with self.assertRaises(kind) as caught:
            call(*told)
        self.assertIs(type(caught.exception), kind)
        self.assertEqual([state(one) for one in told] + [state(owner)], before)

    def both(self, call, rows, *rest):
        """Return what a call gives for rows, having seen that lists and tuples give the same and stay as they are."""
        lists = as_lists(rows)
        tuples = as_tuples(rows)
        found = call(lists, *rest)
        self.assertEqual(lists, as_lists(rows))
        self.same(call(tuples, *rest), found)
        return found
