"""Elements: nets of switches of two gates, stage by stage, with a setting for each: straight or across."""

from crossloom.errors import BadNet
from crossloom.pairings import behind, check_pairing, is_full


class Net:
    """So many gates, and stages: a pairing of wires ahead of each stage's elements, and one behind the last."""

    def __init__(self, many, wires):
        if many < 2 or many % 2 == 1 or len(wires) < 2:
            raise BadNet("a net of such a size can't be")
        self.many = many
        self.wires = tuple([check_pairing(row, many) for row in wires])
        if any([not is_full(row) for row in self.wires]):
            raise BadNet("wires that lead nowhere")

    def stages(self):
        """Return how many stages of elements there are."""
        return len(self.wires) - 1

    def count(self):
        """Return how many elements there are."""
        return self.stages() * (self.many // 2)

    def check(self, settings):
        """Return settings, a row of noughts and ones for each stage; BadNet for others."""
        if len(settings) != self.stages() or any([len(row) != self.many // 2 for row in settings]):
            raise BadNet("settings of another size")
        if any([one not in (0, 1) for row in settings for one in row]):
            raise BadNet("a setting that is neither straight nor across")
        return [list(row) for row in settings]

    def carried(self, settings):
        """Return the pairing that settings make."""
        rows = self.check(settings)
        return tuple([led(self.wires, rows, gate)[-1] for gate in range(self.many)])

    def way(self, settings, gate):
        """Return the places, ahead of each stage and at the end, through which a gate in is led."""
        return led(self.wires, self.check(settings), gate)

    def straight(self):
        """Return settings that are all straight."""
        return [[0 for _ in range(self.many // 2)] for _ in range(self.stages())]


def led(wires, settings, gate):
    """Return the places, ahead of each stage and at the end, of a gate in by wires and settings."""
    place = wires[0][gate]
    places = [place]
    for row, behind_it in zip(settings, wires[1:]):
        # An element holds places 2k and 2k + 1, so going across changes only the last figure.
        place = behind_it[place ^ row[place // 2]]
        places.append(place)
    return tuple(places)


def all_settings(net, most=4096):
    """Return all settings of a net, none across first; BadNet for more than so many."""
    found = [[]]
    for _ in range(net.count()):
        found = [row + [one] for row in found for one in (0, 1)]
        # Asked at each element, for a great net would have more settings than can be held.
        if len(found) > most:
            raise BadNet("more settings than may be told")
    return [in_stages(row, net.many // 2) for row in found]


def in_stages(row, half):
    """Return the settings of a net's elements, told in one row, stage by stage."""
    return [row[start:start + half] for start in range(0, len(row), half)]


def all_carried(net):
    """Return all pairings that some settings of a net make, each once, in order."""
    return tuple(sorted(set([net.carried(settings) for settings in all_settings(net)])))


def joined(one, other):
    """Return a net with another behind it; BadNet for another count of gates."""
    if one.many != other.many:
        raise BadNet("nets of unlike counts of gates")
    between = behind(one.wires[-1], other.wires[0])
    return Net(one.many, one.wires[:-1] + (between,) + other.wires[1:])


def plain_wires(many):
    """Return wires that lead straight on."""
    return tuple(range(many))
