"""Orders and rings of nodes of any kind."""


def sort_nodes(befores):
    """Return the nodes, each one behind those it waits for; those that wait for each other are left out.

    befores is a dict from each node to the list of the nodes for which it waits.
    """
    waits = {node: len(befores[node]) for node in befores}
    followers = {node: [] for node in befores}
    for node in befores:
        for before in befores[node]:
            followers[before].append(node)
    order = [node for node in befores if waits[node] == 0]
    done = 0
    while done < len(order):
        node = order[done]
        done += 1
        for follower in followers[node]:
            waits[follower] -= 1
            if waits[follower] == 0:
                order.append(follower)
    return order


def find_ring(start, follows):
    """Return the list of the nodes of the ring into which a walk from start runs.

    follows is a dict from each node that the walk can meet to the next one.
    """
    places = {}
    node = start
    while node not in places:
        places[node] = len(places)
        node = follows[node]
    return list(places)[places[node]:]
