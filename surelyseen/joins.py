"""Which nodes of a net hang together over some of its arcs, and which arcs alone join them."""

from surelyseen.nets import links_of


class Joins:
    """Nodes that are joined, one pair after the other."""

    def __init__(self, nodes):
        self._above = list(range(nodes))

    def unite(self, pair):
        """Join two nodes; whether they were apart before."""
        one = self._head(pair[0])
        other = self._head(pair[1])
        self._above[one] = other
        return one != other

    def apart(self, pair):
        """Whether two nodes are not joined."""
        return self._head(pair[0]) != self._head(pair[1])

    def _head(self, node):
        """The node that stands for all those with which this one is joined."""
        while self._above[node] != node:
            self._above[node] = self._above[self._above[node]]
            node = self._above[node]
        return node


def bridges(net, free):
    """For each arc whether it is free (as a list of True and False says) and in no ring of free arcs."""
    came, depths = _forest(net, free)
    bridging = [False] * len(net.arcs)
    for link in came:
        if link is not None:
            bridging[link[0]] = True
    in_forest = list(bridging)
    for arc, (tail, head) in enumerate(net.arcs):
        if free[arc] and not in_forest[arc]:
            for other in _ring_behind(came, depths, tail, head):
                bridging[other] = False
    return bridging


def _forest(net, free):
    """For each node the pair (arc, node) through which free arcs first reached it, or None, and how deep it is."""
    links = links_of(net)
    came = [None] * net.nodes
    depths = [None] * net.nodes
    for root in range(net.nodes):
        if depths[root] is None:
            depths[root] = 0
            _grow_tree(links, free, root, came, depths)
    return came, depths


def _grow_tree(links, free, root, came, depths):
    queue = [root]
    place = 0
    while place < len(queue):
        node = queue[place]
        place += 1
        for arc, _, end in links[node]:
            if free[arc] and depths[end] is None:
                came[end] = (arc, node)
                depths[end] = depths[node] + 1
                queue.append(end)


def _ring_behind(came, depths, one, other):
    """The arcs of the forest between two nodes that it joins."""
    found = []
    while one != other:
        if depths[one] < depths[other]:
            one, other = other, one
        arc, one = came[one]
        found.append(arc)
    return found
