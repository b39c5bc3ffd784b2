"""Searches: what grids and ways share, rows made keys, and steps counted from a node on."""


def fixed(thing):
    """Return a row, and all rows in it, as tuples, anything else as it is."""
    # Nodes and links are keys of tables, which lists can't be.
    if isinstance(thing, (list, tuple)):
        return tuple([fixed(one) for one in thing])
    return thing


def steps_from(nearby, root):
    """Return a table of nodes to their least steps from a root, going on by nearby(node)."""
    found = {root: 0}
    edge = [root]
    while edge != []:
        ahead = []
        for node in edge:
            for other in nearby(node):
                if other not in found:
                    found[other] = found[node] + 1
                    ahead.append(other)
        edge = ahead
    return found
