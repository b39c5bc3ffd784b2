"""Fairs: rates for flows over shared links, none to be made greater but by making a lesser one less."""

from math import gcd

from crossloom.errors import BadPaper, BadRate

NOTHING = (0, 1)


def shared(one, other):
    """Return the greatest number that goes into both."""
    return gcd(one, other)


def small(top, low):
    """Return a part made small."""
    goes = shared(top, low)
    return (top // goes, low // goes)


def less(one, other):
    """Tell whether a part is less than another."""
    return one[0] * other[1] < other[0] * one[1]


def added(one, other, times):
    """Return a part and so many times another in all, made small."""
    return small(one[0] * other[1] + times * other[0] * one[1], one[1] * other[1])


def check_flows(flows, rooms):
    """Return flows, the links of each in order; BadRate for none, a link that isn't there, or a room below nought."""
    found = [tuple(sorted(flow)) for flow in flows]
    if any([flow == () or any([not 0 <= link < len(rooms) for link in flow]) for flow in found]):
        raise BadRate("a flow without links, or over a link that isn't there")
    if any([room < 0 for room in rooms]):
        raise BadRate("a room below nought")
    return found


def next_full(left, open_flows, found):
    """Return (rate, links) of the links, with parts left, full first when open flows, numbers in found, rise alike."""
    best = NOTHING
    links = []
    for link, (top, low) in enumerate(left):
        count = len(those_on(link, open_flows, found))
        if count > 0:
            rate = small(top, low * count)
            if links == [] or less(rate, best):
                best = rate
                links = []
            if rate == best:
                links.append(link)
    return (best, tuple(links))


def those_on(link, numbers, found):
    """Return the flows, of some by their numbers, that go over a link."""
    return [number for number in numbers if link in found[number]]


def rates(flows, rooms):
    """Return each flow's rate, (top, low): all rise alike, those on a link that is full stay."""
    found = check_flows(flows, rooms)
    given = [NOTHING for _ in found]
    left = [(room, 1) for room in rooms]
    open_flows = list(range(len(found)))
    while open_flows != []:
        rate, links = next_full(left, open_flows, found)
        staying = [number for number in open_flows if any([link in found[number] for link in links])]
        for number in staying:
            given[number] = rate
        # What is left of a link is for the flows that are still open alone.
        left = [added(part, rate, -len(those_on(link, staying, found))) for link, part in enumerate(left)]
        open_flows = [number for number in open_flows if number not in staying]
    return tuple(given)


def link_load(flows, given, link):
    """Return what flows bring over a link in all."""
    total = NOTHING
    for flow, rate in zip(flows, given):
        if link in flow:
            total = added(total, rate, 1)
    return total


def is_full(flows, rooms, given, link):
    """Tell whether flows bring just a link's room over it."""
    return link_load(flows, given, link) == (rooms[link], 1)


def has_more(flows, given, link, rate):
    """Tell whether any flow over a link has more than a rate."""
    return any([link in flow and less(rate, more) for flow, more in zip(flows, given)])


def necks(flows, rooms, given):
    """Return, for each flow, the first link that is full and on which no flow has more, None for none."""
    return tuple([neck_of(flows, rooms, given, number) for number in range(len(flows))])


def neck_of(flows, rooms, given, number):
    """Return a flow's first link that is full and on which no flow has more, None for none."""
    for link in sorted(flows[number]):
        if is_full(flows, rooms, given, link) and not has_more(flows, given, link, given[number]):
            return link
    return None


def check_fair(flows, rooms, given, links):
    """Return True where each flow's link is full and no flow on it has more, and no link has too much; BadPaper."""
    if len(given) != len(flows) or len(links) != len(flows):
        raise BadPaper("as many rates and links as flows are needed")
    for link, room in enumerate(rooms):
        if less((room, 1), link_load(flows, given, link)):
            raise BadPaper("a link with more than its room")
    for flow, rate, link in zip(flows, given, links):
        if link not in flow or not is_full(flows, rooms, given, link):
            raise BadPaper("a flow's link that isn't its own, or isn't full")
        if has_more(flows, given, link, rate):
            raise BadPaper("a flow's link on which another flow has more")
    return True
