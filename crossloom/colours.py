"""Colours: calls between two sides coloured so that no gate has two of one colour, with as few as can be."""

from crossloom.errors import BadPaper, BadSize

LEFT = 0
RIGHT = 1


class Calls:
    """Calls, (one, other), as often as told, and the colour of each."""

    def __init__(self, calls, left, right):
        self.calls = tuple([tuple(call) for call in calls])
        if any([not 0 <= one < left or not 0 <= other < right for one, other in self.calls]):
            raise BadSize("a gate that isn't there")
        self.left = left
        self.right = right
        self.colours = [None for _ in self.calls]

    def most_calls(self):
        """Return the most calls that any gate has: as many colours as are needed."""
        counts = {}
        for one, other in self.calls:
            for end in ((LEFT, one), (RIGHT, other)):
                counts[end] = counts.get(end, 0) + 1
        return max(counts.values(), default=0)

    def at(self, side, gate, colour):
        """Return the number of the call of a colour at a gate of a side, None for none."""
        for number, call in enumerate(self.calls):
            if call[side] == gate and self.colours[number] == colour:
                return number
        return None

    def first_free(self, side, gate, many):
        """Return the first colour of so many that no call at a gate has, None for none."""
        for colour in range(many):
            if self.at(side, gate, colour) is None:
                return colour
        return None

    def exchange(self, start, here, other):
        """Exchange two colours along the way of calls from one on the right side; return the calls of the way."""
        way = self.way_from(start, here, other)
        for number in way:
            self.colours[number] = here + other - self.colours[number]
        return tuple(way)

    def way_from(self, start, here, other):
        """Return the calls from a gate on the right side on that have two colours by turns."""
        way = []
        side = RIGHT
        colour = here
        number = self.at(side, start, colour)
        # A way that comes back to its first call is a ring: it ends there.
        while number is not None and number not in way:
            way.append(number)
            side = LEFT + RIGHT - side
            colour = here + other - colour
            number = self.at(side, self.calls[number][side], colour)
        return way

    def colour(self, number, many):
        """Colour one call with one of so many; return the calls that had to change; BadSize where a gate is full."""
        one, other = self.calls[number]
        mine = self.first_free(LEFT, one, many)
        theirs = self.first_free(RIGHT, other, many)
        if mine is None or theirs is None:
            raise BadSize("a gate that has a call of each colour")
        changed = ()
        if mine != theirs:
            changed = self.exchange(other, mine, theirs)
        self.colours[number] = mine
        return changed

    def colour_all(self):
        """Colour all calls, in order, with as many colours as are needed; return the colours."""
        # Colours given before are taken away, for with them more could be needed.
        self.colours = [None for _ in self.calls]
        many = self.most_calls()
        for number in range(len(self.calls)):
            self.colour(number, many)
        return tuple(self.colours)


def coloured(calls, left, right):
    """Return the colours of calls."""
    return Calls(calls, left, right).colour_all()


def check_colours(calls, colours, many):
    """Return True where colours, below so many, are unlike at each gate; BadPaper."""
    if len(colours) != len(calls) or any([colour is None or not 0 <= colour < many for colour in colours]):
        raise BadPaper("colours that aren't there")
    pairs = [(LEFT, call[LEFT], colour) for call, colour in zip(calls, colours)]
    pairs.extend([(RIGHT, call[RIGHT], colour) for call, colour in zip(calls, colours)])
    if len(set(pairs)) != len(pairs):
        raise BadPaper("a gate that has a colour twice")
    return True


def by_colour(calls, colours, many):
    """Return the calls of each colour, in order."""
    return tuple([calls_with(calls, colours, colour) for colour in range(many)])


def calls_with(calls, colours, wanted):
    """Return the calls of one colour, in order."""
    return tuple([tuple(call) for call, colour in zip(calls, colours) if colour == wanted])
