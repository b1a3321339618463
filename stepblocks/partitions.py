"""Nodes in classes, which are split until no way of followers tells two nodes of one class apart."""


class Partition:
    """Nodes 0, 1 and so on, each with a label and a list of followers, which are nodes.

    class_of has the number of the class of each node. At first the nodes with equal labels are in one class.
    """

    def __init__(self, labels, follows):
        numbers = {}
        self.class_of = [numbers.setdefault(label, len(numbers)) for label in labels]
        self._members = [{} for _ in numbers]
        for node, number in enumerate(self.class_of):
            self._members[number][node] = True
        most = max([len(given) for given in follows], default=0)
        # For each place in a list of followers: the nodes that have a node there.
        self._befores = [[[] for _ in labels] for _ in range(most)]
        for node, given in enumerate(follows):
            for place, follower in enumerate(given):
                self._befores[place][follower].append(node)

    def split_all(self):
        """Split the classes until the followers of the nodes of one class are in one class, at each place."""
        waiting = list(range(len(self._members)))
        while waiting:
            chosen = list(self._members[waiting.pop()])
            for befores in self._befores:
                touched = self._group_befores(chosen, befores)
                for number in touched:
                    made = self._split(number, touched[number])
                    # The larger half need not wait: it tells nothing that the whole and the other half do not.
                    if made is not None:
                        waiting.append(made)

    def _group_befores(self, chosen, befores):
        """Return a dict from classes to those of their nodes that have a chosen node at a place."""
        touched = {}
        for node in chosen:
            for before in befores[node]:
                touched.setdefault(self.class_of[before], []).append(before)
        return touched

    def _split(self, number, nodes):
        """Part some nodes of a class from its others; return the number of the smaller half, the new class, or None."""
        members = self._members[number]
        if len(nodes) == len(members):
            return None
        if 2 * len(nodes) > len(members):
            parted = {node: True for node in nodes}
            nodes = [node for node in members if node not in parted]
        made = len(self._members)
        for node in nodes:
            del members[node]
            self.class_of[node] = made
        self._members.append({node: True for node in nodes})
        return made


def coarsest_classes(labels, follows):
    """Return the list of the numbers of the classes of the nodes 0, 1 and so on.

    Two nodes are in one class if and only if their labels are equal, and so are the labels of the nodes to which any
    list of places leads from the one and from the other. follows has as many nodes for all nodes with equal labels.
    """
    partition = Partition(labels, follows)
    partition.split_all()
    return partition.class_of
