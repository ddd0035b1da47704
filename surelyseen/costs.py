"""Making balanced values on a net as cheap as their bounds let them be."""

from heapq import heappop, heappush

from surelyseen.pushing import Pushing


def cheapest(net, values, lows, highs, costs):
    """Balanced values within the bounds with the least total cost, and costs that show it.

    values: any balanced values within the bounds.
    costs: what a unit of each arc's value costs.

    Each node has a price; what an arc costs changes by its tail's price less its head's. So balanced values keep
    their total cost. In the end an arc that costs more than 0 has its low, one that costs less than 0 its high.
    """
    shifted = list(costs)
    placed = [
        value if cost == 0 else (low if cost > 0 else high)
        for value, low, high, cost in zip(values, lows, highs, costs)
    ]
    pushing = Pushing(net, placed, lows, highs)
    while True:
        _hold_costly(pushing, lows, highs, shifted)
        nodes = pushing.settle()
        if not nodes:
            return pushing.now, shifted
        rises = _price_rises(pushing, lows, highs, shifted, nodes)
        shifted = [cost + rises[tail] - rises[head] for cost, (tail, head) in zip(shifted, net.arcs)]


def _hold_costly(pushing, lows, highs, shifted):
    """Let only the arcs that cost nothing be pushed; the others stay at the end at which they are."""
    for arc, cost in enumerate(shifted):
        pushing.lows[arc] = lows[arc] if cost == 0 else pushing.now[arc]
        pushing.highs[arc] = highs[arc] if cost == 0 else pushing.now[arc]


def _price_rises(pushing, lows, highs, shifted, starts):
    """For each node the cost of the cheapest way from a start, but at most that of the first node with too little."""
    found = [None] * pushing.net.nodes
    queue = [(0, node) for node in starts]
    cost = 0
    while queue:
        cost, node = heappop(queue)
        if found[node] is None:
            found[node] = cost
            if pushing.extra[node] < 0:
                break
            for arc, direction, end in pushing.links[node]:
                room = highs[arc] - pushing.now[arc] if direction == 1 else pushing.now[arc] - lows[arc]
                if room > 0 and found[end] is None:
                    heappush(queue, (cost + direction * shifted[arc], end))
    return [cost if known is None else known for known in found]
