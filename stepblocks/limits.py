"""Numbers of nodes that stay below limits on each other (point 30)."""


def least_numbers(ground, limits):
    """Return the least numbers from 0 of the nodes 0 to ground that keep limits, and None.

    limits is a list of tuples (start, end, limit): the number of the end is at most that of the start and the limit.
    The number of ground is 0. If no numbers keep the limits, return None and a list of pairs (start, end), whose
    limits are together below 0: each pair but the first one ends at the start of the one before; and the last one
    starts at ground, or where the first one ends.
    """
    found = [0] * (ground + 1)
    onward = {}
    raised = None
    # Without a ring of limits below 0, no number is raised over more nodes than there are.
    for _ in range(ground + 2):
        raised = None
        for start, end, limit in limits:
            if found[start] < found[end] - limit:
                found[start] = found[end] - limit
                onward[start] = end
                raised = start
                if start == ground:
                    return None, _list_pairs(ground, onward)
        if raised is None:
            return found, None
    return None, _list_pairs(raised, onward)


def _list_pairs(start, onward):
    """Return the pairs to which a start leads: those of a ring, if there is one on the way, otherwise all."""
    places = {}
    node = start
    while node in onward and node not in places:
        places[node] = len(places)
        node = onward[node]
    # A walk that comes to no ring ends at a node whose number is 0.
    nodes = list(places)[places.get(node, 0):]
    return [(one, onward[one]) for one in reversed(nodes)]
