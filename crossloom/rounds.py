"""Rounds: queues served in turn, each by what it may bring, and by finishing times as if all were served at once."""

from crossloom.errors import BadSize


class Deficits:
    """Queues of packet lengths, what each may bring a round, and what it has left to bring."""

    def __init__(self, quanta):
        if any([quantum < 1 for quantum in quanta]):
            raise BadSize("a queue that may bring nothing")
        self.quanta = tuple(quanta)
        self.queues = [[] for _ in quanta]
        self.left = [0 for _ in quanta]
        self.sent = [0 for _ in quanta]

    def put(self, queue, length):
        """Put a packet of a length in a queue; BadSize below one."""
        if length < 1 or not 0 <= queue < len(self.queues):
            raise BadSize("a packet of no length, or for a queue that isn't there")
        self.queues[queue].append(length)

    def visit(self, queue):
        """Serve a queue in its turn; return the lengths sent; a bare queue keeps nothing."""
        found = []
        waiting = self.queues[queue]
        if waiting != []:
            self.left[queue] += self.quanta[queue]
        while waiting != [] and waiting[0] <= self.left[queue]:
            found.append(waiting.pop(0))
            self.left[queue] -= found[-1]
        if waiting == []:
            self.left[queue] = 0
        self.sent[queue] += sum(found)
        return tuple(found)

    def round(self):
        """Serve all queues once, in order; return (queue, length) of what was sent."""
        found = []
        for queue in range(len(self.queues)):
            found.extend([(queue, length) for length in self.visit(queue)])
        return tuple(found)


def check_packets(packets, weights):
    """Return packets, (queue, length); BadSize for a queue that isn't there, or a length or weight below one."""
    if any([weight < 1 for weight in weights]):
        raise BadSize("a weight below one")
    found = [tuple(packet) for packet in packets]
    if any([not 0 <= queue < len(weights) or length < 1 for queue, length in found]):
        raise BadSize("a packet of no length, or for a queue that isn't there")
    return found


def tag(packets, weights, place):
    """Return a packet's tag, (top, low): all lengths of its queue up to it, by the queue's weight."""
    mine = packets[place][0]
    return (sum([length for queue, length in packets[:place + 1] if queue == mine]), weights[mine])


def is_ahead(one, other):
    """Tell whether a tag is less than another."""
    return one[0] * other[1] < other[0] * one[1]


def fair_order(packets, weights):
    """Return the places of packets, all there from the first, by their tags, those alike by their places."""
    found = check_packets(packets, weights)
    tags = [tag(found, weights, place) for place in range(len(found))]
    order = []
    for place in range(len(found)):
        spot = len(order)
        # Put in behind those alike, the places of a row of tags alike rise.
        while spot > 0 and is_ahead(tags[place], tags[order[spot - 1]]):
            spot -= 1
        order.insert(spot, place)
    return tuple(order)


def end_times(packets, order):
    """Return when each packet is over, sent one by one in an order, one of length a time."""
    found = [None for _ in packets]
    over = 0
    for place in order:
        over = over + packets[place][1]
        found[place] = over
    return tuple(found)


def fluid_time(packets, weights, place):
    """Return when a packet is over, (top, low), were all queues served at once by their weights, bare ones not."""
    top, low = tag(packets, weights, place)
    found = 0
    for queue, weight in enumerate(weights):
        lengths = sum([length for other, length in packets if other == queue])
        # By then a queue has had its weight's part, or all of its lengths where that is less.
        found = found + min(lengths * low, weight * top)
    return (found, low)


def longest(packets):
    """Return the greatest length, nought for none."""
    return max([length for _, length in packets], default=0)


def behind_fluid(packets, weights):
    """Return by how much, (top, low), each packet is over later in the fair order than at once; below nought ahead."""
    found = []
    for place, over in enumerate(end_times(packets, fair_order(packets, weights))):
        top, low = fluid_time(packets, weights, place)
        found.append((over * low - top, low))
    return tuple(found)
