"""Ways: routes over links, which link waits for which, and why no cells can wait in a ring."""

from crossloom.errors import BadPaper, NoSuch
from crossloom.pairings import figures
from crossloom.searches import fixed, steps_from


def by_columns(grid, one, other):
    """Return the nodes from one to another of a grid: along the row first, then along the column, the shorter way."""
    across = steps_on(one[0], other[0], grid.wide, grid.round_ends)
    down = steps_on(one[1], other[1], grid.high, grid.round_ends)
    steps = ["east" if across > 0 else "west" for _ in range(abs(across))]
    steps.extend(["south" if down > 0 else "north" for _ in range(abs(down))])
    found = [fixed(one)]
    for step in steps:
        found.append(grid.step(found[-1], step))
    return tuple(found)


def steps_on(here, goal, many, round_ends):
    """Return how many steps forward, below nought back, lead to a goal; the shorter way round, forward where alike."""
    if not round_ends:
        return goal - here
    ahead = (goal - here) % many
    return ahead if 2 * ahead <= many else ahead - many


def by_figures(cube, one, other):
    """Return the nodes from one to another of a cube: the highest unlike figure first."""
    found = [one]
    for way, unlike in enumerate(figures(one ^ other, cube.ways)):
        if unlike == 1:
            found.append(cube.step(found[-1], way))
    return tuple(found)


def links_of(way):
    """Return the links of a way of nodes."""
    nodes = fixed(way)
    return tuple(zip(nodes, nodes[1:]))


def waits(ways):
    """Return (link, next link) for all that follow each other on some way, each once, in order."""
    # Links follow each other on a way's links as nodes do on a way.
    return tuple(sorted(set([pair for way in ways for pair in links_of(links_of(way))])))


def numbered(pairs):
    """Return a table of links to numbers that rise along all pairs, None where some wait in a ring."""
    rows = fixed(pairs)
    left = sorted(set([link for pair in rows for link in pair]))
    numbers = {}
    while left != []:
        behind = {after: True for before, after in rows if before not in numbers}
        free = [link for link in left if link not in behind]
        if free == []:
            return None
        for link in free:
            numbers[link] = len(numbers)
        left = [link for link in left if link in behind]
    return numbers


def check_numbers(pairs, numbers):
    """Return True for numbers that rise along all pairs; BadPaper."""
    for before, after in fixed(pairs):
        if before not in numbers or after not in numbers or numbers[before] >= numbers[after]:
            raise BadPaper("numbers that don't rise")
    return True


def ring_of(pairs):
    """Return links that wait for each other in a ring, from the first on, None where none do."""
    behind = {}
    # Put in in order, links and those that they wait for are gone through in order too.
    for before, after in sorted(set(fixed(pairs))):
        behind.setdefault(before, []).append(after)
    best = None
    for start in behind:
        ring = ring_from(behind, start)
        if ring is not None and (best is None or len(ring) < len(best)):
            best = ring
    return best


def ring_from(behind, start):
    """Return a shortest ring of links from one on, the first in order, by a table of next links; None for none."""
    came = {start: None}
    edge = [start]
    while edge != []:
        ahead = []
        for link in edge:
            for after in behind.get(link, []):
                if after == start:
                    return back_from(came, link)
                if after not in came:
                    came[after] = link
                    ahead.append(after)
        edge = ahead
    return None


def back_from(came, last):
    """Return the links from the beginning of a search to a last one."""
    found = []
    link = last
    while link is not None:
        found.append(link)
        link = came.get(link)
    return tuple(found[::-1])


def check_ring(pairs, ring):
    """Return True for links that wait for each other in a ring; BadPaper."""
    if len(ring) == 0:
        raise BadPaper("a ring of no links")
    rows = fixed(pairs)
    links = fixed(ring)
    for pair in zip(links, links[1:] + links[:1]):
        if pair not in rows:
            raise BadPaper("a link that doesn't wait for the next")
    return True


def all_ways(shape, route):
    """Return the way between any two unlike nodes by a route."""
    nodes = shape.nodes()
    return tuple([fixed(route(shape, one, other)) for one in nodes for other in nodes if one != other])


def levels(near, root):
    """Return a table of nodes to their steps from a root, by a table of neighbours."""
    return steps_from(lambda node: near.get(node, ()), root)


def goes_up(levels_of, one, other):
    """Tell whether a link goes up: to fewer steps from the root, or as many and a lesser name."""
    return (levels_of[other], other) < (levels_of[one], one)


def up_and_down(near, root, one, other):
    """Return a shortest way of links up, then links down, the first in order; NoSuch where there is none."""
    levels_of = levels(near, root)
    # A place is a node, and whether a link down led to it: from there no link up goes on.
    came = {(one, False): None}
    edge = [(one, False)] if one in near else []
    while edge != []:
        ahead = []
        for place in edge:
            if place[0] == other:
                return tuple([node for node, _ in back_from(came, place)])
            for after in places_on(near, levels_of, place):
                if after not in came:
                    came[after] = place
                    ahead.append(after)
        edge = ahead
    raise NoSuch("no way up and then down")


def places_on(near, levels_of, place):
    """Return (node, whether a link down led there) of all that a way up and then down goes on to, in order."""
    node, down = place
    if node not in levels_of:
        return []
    found = []
    for other in sorted(near.get(node, ())):
        up = goes_up(levels_of, node, other)
        if not up or not down:
            found.append((other, not up))
    return found


def is_up_and_down(near, root, way):
    """Tell whether a way goes by links, and never up behind a link down."""
    levels_of = levels(near, root)
    place = (None, False)
    for one, other in links_of(way):
        found = [after for after in places_on(near, levels_of, (one, place[1])) if after[0] == other]
        if found == []:
            return False
        place = found[0]
    return True
