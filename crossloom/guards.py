"""Guards: as many ways between two nodes as can be without a common link, and a cut that shows it."""

from crossloom.errors import BadPaper, NoSuch
from crossloom.searches import fixed, steps_from
from crossloom.ways import back_from, links_of


def rows_of(near):
    """Return a table of neighbours, each row as a tuple."""
    return {node: fixed(near[node]) for node in near}


def check_near(near):
    """Return a table of neighbours, each both ways; NoSuch for one that isn't there."""
    found = rows_of(near)
    for node in found:
        for other in found[node]:
            if other not in found or node not in found[other]:
                raise NoSuch("a neighbour that isn't there, or isn't one both ways")
    return found


def check_ends(near, one, other):
    """Return a table of neighbours that has two unlike nodes; NoSuch for others."""
    if one not in near or other not in near or one == other:
        raise NoSuch("two unlike nodes are needed that are there")
    return check_near(near)


def shortest(nearby, one, other):
    """Return the shortest way from a node to another, the first of such, going on by nearby(node); None for none."""
    came = {one: None}
    edge = [one]
    while edge != [] and other not in came:
        ahead = []
        for node in edge:
            for after in sorted(nearby(node)):
                if after not in came:
                    came[after] = node
                    ahead.append(after)
        edge = ahead
    return list(back_from(came, other)) if other in came else None


def free_from(near, used, node):
    """Return the nodes that are near by links not used, or used the other way round."""
    return [other for other in near.get(node, ()) if (node, other) not in used]


def widen(near, used, one, other):
    """Return a way by links not used, or used the other way round, the shortest and first, None for none."""
    rows = rows_of(near)
    return shortest(lambda node: free_from(rows, used, node), one, other)


def flow(near, one, other):
    """Return the links used, by their directions, of as many ways as can be, none both ways."""
    used = {}
    # A node and itself are joined by no link at all.
    way = widen(near, used, one, other) if one != other else None
    while way is not None:
        for here, node in links_of(way):
            if (node, here) in used:
                del used[(node, here)]
            else:
                used[(here, node)] = True
        way = widen(near, used, one, other)
    return used


def apart_ways(near, one, other):
    """Return as many ways as can be between two unlike nodes, no link on two of them; NoSuch."""
    left = onward(flow(check_ends(near, one, other), one, other))
    found = []
    way = shortest(lambda node: left.get(node, []), one, other)
    while way is not None:
        for here, node in links_of(way):
            left[here].remove(node)
        found.append(tuple(way))
        way = shortest(lambda node: left.get(node, []), one, other)
    return tuple(found)


def onward(used):
    """Return a table of nodes to the nodes that used links lead to."""
    found = {}
    for here, node in used:
        found.setdefault(here, []).append(node)
    return found


def cut(near, one, other):
    """Return the nodes on one's side of a cut with as few links as there are ways; NoSuch."""
    rows = check_ends(near, one, other)
    used = flow(rows, one, other)
    return tuple(sorted(steps_from(lambda node: free_from(rows, used, node), one)))


def cut_size(near, side):
    """Return how many links lead out of some nodes."""
    rows = rows_of(near)
    inside = fixed(side)
    return len([1 for node in rows if node in inside for other in rows[node] if other not in inside])


def check_ways(near, one, other, ways, side):
    """Return True where ways without a common link, and a cut of as many, show that there are no more; BadPaper."""
    for way in ways:
        if len(way) < 2 or fixed(way[0]) != one or fixed(way[-1]) != other:
            raise BadPaper("a way that doesn't lead from one to the other")
    links = [link for way in ways for link in links_of(way)]
    rows = rows_of(near)
    if any([here not in rows or node not in rows[here] for here, node in links]):
        raise BadPaper("a link that isn't there")
    # A link is the same whichever way it is gone.
    if len(set([tuple(sorted(link)) for link in links])) != len(links):
        raise BadPaper("a link that is gone twice")
    inside = fixed(side)
    if one not in inside or other in inside or any([node not in rows for node in inside]):
        raise BadPaper("a side that doesn't part one from the other")
    if len(set(inside)) != len(inside) or cut_size(near, side) != len(ways):
        raise BadPaper("a cut of another count than the ways")
    return True


def still_joined(near, one, other, broken):
    """Tell whether two nodes hang together when links are broken."""
    rows = rows_of(near)
    gone = {}
    for here, node in fixed(broken):
        gone[(here, node)] = True
        gone[(node, here)] = True
    return other in steps_from(lambda node: free_from(rows, gone, node), one)


def near_of(shape):
    """Return a shape's table of neighbours."""
    return {node: shape.near(node) for node in shape.nodes()}
