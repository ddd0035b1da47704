"""Making values on the arcs of a net balanced within bounds, as far as it goes."""

from surelyseen.nets import ends_of, links_of, surplus


class Pushing:
    """Values on the arcs of a net within bounds, and how much each node has too much.

    Values are moved along the shortest ways first, a whole layer of ways at a time, so that few rounds
    are needed however large the numbers are.

    now: the value of each arc.
    lows, highs: the bounds of each arc; the value lies between them.
    extra: for each node how much it has too much (too little, if below 0).
    """

    def __init__(self, net, values, lows, highs):
        self.net = net
        self.links = links_of(net)
        self.now = list(values)
        self.lows = list(lows)
        self.highs = list(highs)
        self.extra = surplus(net, values)

    def settle(self):
        """Push from nodes with too much to nodes with too little while it goes.

        Return the nodes that can still be reached from nodes with too much, ascending: none if there is no such node.
        """
        while True:
            depths = self._depths()
            if not self._push_layer(depths):
                return [node for node, depth in enumerate(depths) if depth >= 0]

    def _room(self, arc, direction):
        if direction == 1:
            return self.highs[arc] - self.now[arc]
        return self.now[arc] - self.lows[arc]

    def _depths(self):
        """For each node the number of steps from the nearest node with too much, or -1."""
        depths = [-1] * self.net.nodes
        queue = [node for node, extra in enumerate(self.extra) if extra > 0]
        for node in queue:
            depths[node] = 0
        place = 0
        while place < len(queue):
            node = queue[place]
            place += 1
            for arc, direction, end in self.links[node]:
                if depths[end] < 0 and self._room(arc, direction) > 0:
                    depths[end] = depths[node] + 1
                    queue.append(end)
        return depths

    def _push_layer(self, depths):
        """Push along ways on which the depth grows, until there are none; whether there was one."""
        turns = [0] * self.net.nodes
        pushed = False
        for node in range(self.net.nodes):
            while self.extra[node] > 0:
                way = self._way(node, depths, turns)
                if not way:
                    break
                self._push(node, way)
                pushed = True
        return pushed

    def _way(self, start, depths, turns):
        """A way from a node to one with too little, or the empty list; turns remembers what was tried in vain."""
        way = []
        node = start
        while self.extra[node] >= 0:
            links = self.links[node]
            turns[node] = self._next_turn(node, depths, turns[node])
            if turns[node] < len(links):
                arc, direction, node = links[turns[node]]
                way.append((arc, direction))
            elif way:
                arc, direction = way.pop()
                node = ends_of(self.net, arc, direction)[0]
                turns[node] += 1
            else:
                break
        return way

    def _next_turn(self, node, depths, turn):
        links = self.links[node]
        while turn < len(links):
            arc, direction, end = links[turn]
            if depths[end] == depths[node] + 1 and self._room(arc, direction) > 0:
                break
            turn += 1
        return turn

    def _push(self, start, way):
        end = ends_of(self.net, way[-1][0], way[-1][1])[1]
        rooms = [self._room(arc, direction) for arc, direction in way]
        amount = min(self.extra[start], -self.extra[end], min(rooms))
        for arc, direction in way:
            self.now[arc] += direction * amount
        self.extra[start] -= amount
        self.extra[end] += amount
