"""Nets, rings and cuts, and the net of a world (points 14 to 18)."""

import itertools
import unittest

from helpers import doc_world, drawn_net, drawn_run, draws, large_world, own_sums, own_values, small_worlds
from surelyseen.errors import BadNet
from surelyseen.nets import Net, balanced, moved
from surelyseen.rings import is_cut, is_ring, ring_or_cut
from surelyseen.worldnet import net_of


def own_is_ring(net, rises, falls, asked, ring):
    """Point 15 read word by word."""
    if not ring or ring[0] != (asked, 1):
        return False
    reached = []
    for place, (arc, direction) in enumerate(ring):
        if not 0 <= arc < len(net.arcs) or direction not in (1, -1):
            return False
        if place > 0 and (arc == asked or not (rises if direction == 1 else falls)[arc]):
            return False
        tail, head = net.arcs[arc]
        start, end = (tail, head) if direction == 1 else (head, tail)
        if place > 0 and start != reached[-1]:
            return False
        reached.append(end)
    return reached[-1] == net.arcs[asked][0] and len(set(reached)) == len(reached)


def own_is_cut(net, rises, falls, asked, nodes):
    if any(not 0 <= node < net.nodes for node in nodes) or nodes != sorted(set(nodes)):
        return False
    if net.arcs[asked][1] not in nodes or net.arcs[asked][0] in nodes:
        return False
    for arc, (tail, head) in enumerate(net.arcs):
        if arc != asked and tail in nodes and head not in nodes and rises[arc]:
            return False
        if arc != asked and head in nodes and tail not in nodes and falls[arc]:
            return False
    return True


def drawn_painting(draw, net, share):
    return [[draw.random() < share for _ in net.arcs] for _ in range(2)]


class NetTest(unittest.TestCase):
    def test_net(self):
        net = Net(3, [(0, 1), (1, 2), (2, 0), (0, 1), (1, 0)])
        self.assertEqual(net.nodes, 3)
        self.assertEqual(net.arcs, ((0, 1), (1, 2), (2, 0), (0, 1), (1, 0)))
        self.assertEqual(Net(1, []).arcs, ())

    def test_wrong_nets(self):
        wrong = [(0, []), (-1, []), (1, [(0, 0)]), (1, [(0, 1)]), (2, [(0, 1), (1, 1)]), (2, [(0, 2)]), (2, [(2, 0)]),
                 (2, [(-1, 0)]), (2, [(0, -1)]), (3, [(0, 1), (1, 2), (3, 0)])]
        for nodes, arcs in wrong:
            with self.assertRaises(BadNet):
                Net(nodes, arcs)

    def test_arcs_are_copied(self):
        arcs = [(0, 1)]
        net = Net(2, arcs)
        arcs.append((1, 0))
        self.assertEqual(net.arcs, ((0, 1),))

    def test_balanced(self):
        net = Net(3, [(0, 1), (1, 2), (2, 0), (1, 0)])
        self.assertIs(balanced(net, [0, 0, 0, 0]), True)
        self.assertIs(balanced(net, [5, 3, 3, 2]), True)
        self.assertIs(balanced(net, [-1, 1, 1, -2]), True)
        for values in ([1, 0, 0, 0], [5, 3, 3, 1], [5, 3, 2, 2], [1, 1, 0, 0]):
            self.assertIs(balanced(net, values), False)
        self.assertIs(balanced(Net(1, []), []), True)
        self.assertIs(balanced(Net(2, [(0, 1), (0, 1)]), [4, -4]), True)
        self.assertIs(balanced(Net(2, [(0, 1), (0, 1)]), [4, 4]), False)

    def test_balanced_for_drawn_values(self):
        draw = draws(2)
        for _ in range(300):
            net = Net(*drawn_net(draw, 4, 4))
            values = [draw.randint(-1, 1) for _ in net.arcs]
            expected = all(
                sum(v for (_, head), v in zip(net.arcs, values) if head == node)
                == sum(v for (tail, _), v in zip(net.arcs, values) if tail == node)
                for node in range(net.nodes)
            )
            self.assertEqual(balanced(net, values), expected)

    def test_moved(self):
        net = Net(3, [(0, 1), (1, 2), (0, 2)])
        values = [1, 1, -1]
        ring = [(0, 1), (1, 1), (2, -1)]
        self.assertEqual(moved(net, values, ring, 5), [6, 6, -6])
        self.assertEqual(moved(net, values, ring, -2), [-1, -1, 1])
        self.assertEqual(moved(net, values, ring, 0), values)
        self.assertIsNot(moved(net, values, ring, 0), values)
        self.assertEqual(moved(net, values, [(2, 1)], 3), [1, 1, 2])
        self.assertEqual((values, ring), ([1, 1, -1], [(0, 1), (1, 1), (2, -1)]))


class RingsTest(unittest.TestCase):
    def test_small_rings(self):
        net = Net(3, [(0, 1), (1, 2), (0, 2)])
        self.assertEqual(ring_or_cut(net, [False, True, False], [False, False, True], 0), ("ring", [(0, 1), (1, 1), (2, -1)]))
        self.assertEqual(ring_or_cut(net, [True, False, True], [True, True, True], 0), ("cut", [1]))
        self.assertEqual(ring_or_cut(net, [True, True, True], [True, True, False], 0), ("cut", [1, 2]))
        two = Net(2, [(0, 1), (0, 1), (1, 0)])
        self.assertEqual(ring_or_cut(two, [False, False, False], [False, True, False], 0), ("ring", [(0, 1), (1, -1)]))
        self.assertEqual(ring_or_cut(two, [False, False, True], [False, False, False], 0), ("ring", [(0, 1), (2, 1)]))
        self.assertEqual(ring_or_cut(two, [True, True, False], [True, False, True], 0), ("cut", [1]))
        self.assertEqual(ring_or_cut(Net(2, [(1, 0)]), [True], [True], 0), ("cut", [0]))

    def test_bad_net(self):
        net = Net(2, [(0, 1), (1, 0)])
        good = [True, True]
        calls = [
            ring_or_cut, lambda *parts: is_ring(*parts, [(0, 1), (1, 1)]), lambda *parts: is_cut(*parts, [1]),
            lambda *parts: is_ring(*parts, []), lambda *parts: is_cut(*parts, []), lambda *parts: is_ring(*parts, [(7, 3)]),
        ]
        for call in calls:
            for parts in (([True], good, 0), (good, [True], 0), (good + good, good, 0), (good, good + [False], 0),
                          ([], [], 0), (good, good, 2), (good, good, -1), (good, good, 100)):
                with self.assertRaises(BadNet):
                    call(net, *parts)
        with self.assertRaises(BadNet):
            ring_or_cut(Net(1, []), [], [], 0)

    def test_either_a_ring_or_a_cut(self):
        draw = draws(3)
        words = set()
        for _ in range(600):
            net = Net(*drawn_net(draw))
            rises, falls = drawn_painting(draw, net, draw.choice([0.2, 0.5, 0.8]))
            kept = (list(rises), list(falls))
            for asked in range(len(net.arcs)):
                word, found = ring_or_cut(net, rises, falls, asked)
                words.add(word)
                self.assertIsInstance(found, list)
                self.assertTrue((own_is_ring if word == "ring" else own_is_cut)(net, rises, falls, asked, found))
                self.assertIs((is_ring if word == "ring" else is_cut)(net, rises, falls, asked, found), True)
            self.assertEqual((rises, falls), kept)
        self.assertEqual(words, {"ring", "cut"})

    def test_never_both(self):
        draw = draws(4)
        for _ in range(150):
            net = Net(*drawn_net(draw, 4, 5))
            rises, falls = drawn_painting(draw, net, 0.5)
            for asked in range(len(net.arcs)):
                cuts = [
                    list(nodes) for many in range(net.nodes + 1)
                    for nodes in itertools.combinations(range(net.nodes), many)
                ]
                found = [nodes for nodes in cuts if is_cut(net, rises, falls, asked, nodes)]
                self.assertEqual(found, [nodes for nodes in cuts if own_is_cut(net, rises, falls, asked, nodes)])
                self.assertEqual(bool(found), ring_or_cut(net, rises, falls, asked)[0] == "cut")

    def test_all_short_lists(self):
        net = Net(3, [(0, 1), (1, 2), (2, 0), (0, 1), (1, 0)])
        pairs = [(arc, direction) for arc in range(-1, 6) for direction in (-1, 0, 1, 2)]
        for rises, falls in (([True] * 5, [True] * 5), ([True, True, False, True, True], [True, False, True, True, False])):
            for asked in (0, 1, 4):
                for rest in itertools.chain(*(itertools.product(pairs, repeat=many) for many in (0, 1, 2))):
                    ring = [(asked, 1)] + list(rest)
                    self.assertEqual(is_ring(net, rises, falls, asked, ring), own_is_ring(net, rises, falls, asked, ring))

    def test_spoilt_rings(self):
        draw = draws(5)
        many = 0
        for _ in range(400):
            net = Net(*drawn_net(draw, 5, 10))
            rises, falls = drawn_painting(draw, net, 0.8)
            asked = draw.randrange(len(net.arcs))
            word, ring = ring_or_cut(net, rises, falls, asked)
            if word == "cut":
                continue
            many += 1
            place = draw.randrange(len(ring))
            arc, direction = ring[place]
            other = draw.randrange(-2, len(net.arcs) + 2)
            spoilt = [
                [], ring[1:], ring[:-1], ring + ring, ring[::-1], ring + ring[1:], ring[1:] + ring[:1],
                ring[:place] + [(arc, -direction)] + ring[place + 1:], ring[:place] + [(arc, 0)] + ring[place + 1:],
                ring[:place] + [(arc, 2 * direction)] + ring[place + 1:], ring[:place] + [(other, direction)] + ring[place + 1:],
                ring[:place] + [(arc, direction), (arc, -direction)] + ring[place:], ring[:place] + ring[place + 1:],
                ring[:place] + [(len(net.arcs), 1)] + ring[place + 1:], ring[:place] + [(-1, 1)] + ring[place + 1:],
            ]
            for given in spoilt:
                self.assertEqual(is_ring(net, rises, falls, asked, given), own_is_ring(net, rises, falls, asked, given))
            for number, (arc, direction) in enumerate(ring):
                paint = rises if direction == 1 else falls
                before = paint[arc]
                paint[arc] = False
                self.assertIs(is_ring(net, rises, falls, asked, ring), number == 0)
                paint[arc] = before
        self.assertGreater(many, 100)

    def test_a_ring_goes_by_no_node_twice(self):
        net = Net(4, [(0, 1), (1, 2), (2, 1), (1, 0), (2, 3), (3, 1)])
        yes = [True] * 6
        self.assertIs(is_ring(net, yes, yes, 0, [(0, 1), (3, 1)]), True)
        self.assertIs(is_ring(net, yes, yes, 0, [(0, 1), (1, 1), (2, 1), (3, 1)]), False)
        self.assertIs(is_ring(net, yes, yes, 0, [(0, 1), (1, 1), (4, 1), (5, 1), (3, 1)]), False)
        self.assertIs(is_ring(net, yes, yes, 0, [(0, 1), (0, -1)]), False)
        self.assertIs(is_ring(net, yes, yes, 0, [(3, 1), (0, 1)]), False)
        self.assertIs(is_ring(net, yes, yes, 3, [(3, 1), (0, 1)]), True)

    def test_spoilt_cuts(self):
        net = Net(4, [(0, 1), (1, 2), (3, 2)])
        no = [False] * 3
        for nodes in ([1], [1, 2], [1, 2, 3], [1, 3]):
            self.assertIs(is_cut(net, no, no, 0, nodes), True)
        for nodes in ([], [0], [0, 1], [2], [2, 1], [1, 1], [1, 2, 2], [1, 4], [-1, 1], [3, 1], [0, 1, 2, 3]):
            self.assertIs(is_cut(net, no, no, 0, nodes), False, nodes)
        self.assertIs(is_cut(net, [False, True, False], no, 0, [1]), False)
        self.assertIs(is_cut(net, no, [False, True, False], 0, [1]), True)
        self.assertIs(is_cut(net, no, [False, False, True], 0, [1, 2]), False)
        self.assertIs(is_cut(net, [False, False, True], no, 0, [1, 2]), True)
        self.assertIs(is_cut(net, [True, False, False], [True, False, False], 0, [1]), True)

    def test_the_asked_arc_needs_nothing(self):
        net = Net(2, [(0, 1), (0, 1)])
        for paint in (True, False):
            self.assertEqual(ring_or_cut(net, [paint, False], [paint, True], 0), ("ring", [(0, 1), (1, -1)]))
            self.assertEqual(ring_or_cut(net, [paint, True], [paint, False], 0), ("cut", [1]))
            self.assertIs(is_ring(net, [paint, False], [paint, True], 0, [(0, 1), (1, -1)]), True)

    def test_moved_rings_stay_balanced(self):
        draw = draws(6)
        for _ in range(200):
            net = Net(*drawn_net(draw))
            values = [0] * len(net.arcs)
            for asked in range(len(net.arcs)):
                word, ring = ring_or_cut(net, [True] * len(net.arcs), [True] * len(net.arcs), asked)
                if word == "ring":
                    values = moved(net, values, ring, draw.randint(-9, 9))
                    self.assertTrue(balanced(net, values))

    def test_large_net(self):
        draw = draws(7)
        arcs = [(k, k + 1) for k in range(399)] + [(399, 0)]
        arcs += [tuple(draw.sample(range(400), 2)) for _ in range(200)]
        net = Net(400, arcs)
        first = [k < 400 for k in range(600)]
        self.assertEqual(ring_or_cut(net, first, [False] * 600, 399), ("ring", [(399, 1)] + [(k, 1) for k in range(399)]))
        first[200] = False
        self.assertEqual(ring_or_cut(net, first, [False] * 600, 399), ("cut", list(range(201))))
        for share in (0.3, 0.6):
            rises, falls = drawn_painting(draw, net, share)
            for asked in range(0, 600, 7):
                word, found = ring_or_cut(net, rises, falls, asked)
                self.assertTrue((own_is_ring if word == "ring" else own_is_cut)(net, rises, falls, asked, found))
                self.assertTrue((is_ring if word == "ring" else is_cut)(net, rises, falls, asked, found))

    def test_returned_lists_may_change(self):
        net = Net(2, [(0, 1), (1, 0)])
        for paint, expected in ((True, ("ring", [(0, 1), (1, 1)])), (False, ("cut", [1]))):
            found = ring_or_cut(net, [paint, paint], [paint, paint], 0)
            found[1].append("spoilt")
            self.assertEqual(ring_or_cut(net, [paint, paint], [paint, paint], 0), expected)


class WorldNetTest(unittest.TestCase):
    def worlds(self):
        return small_worlds() + [doc_world(), large_world()]

    def test_size(self):
        for world in self.worlds():
            net = net_of(world)
            self.assertIsInstance(net, Net)
            self.assertEqual(len(net.arcs), len(own_sums(world)))
            self.assertEqual(net.nodes, len(own_sums(world)) - len(world.streams) * world.ticks + 1)

    def test_sums_of_tables_are_balanced(self):
        draw = draws(8)
        for world in self.worlds():
            net = net_of(world)
            for _ in range(10):
                table = [[draw.randint(-50, 50) for _ in range(world.ticks)] for _ in world.streams]
                self.assertTrue(balanced(net, own_values(world, table)))

    def test_other_values_are_not_balanced(self):
        draw = draws(9)
        for world in self.worlds():
            net = net_of(world)
            values = own_values(world, drawn_run(draw, world))
            for place in range(len(values)):
                spoilt = list(values)
                spoilt[place] += draw.choice([-1, 1, 7])
                self.assertFalse(balanced(net, spoilt))
            for _ in range(200):
                spoilt = [value + (draw.randint(-1, 1) if draw.random() < 0.1 else 0) for value in values]
                self.assertEqual(balanced(net, spoilt), self.are_sums(world, spoilt))

    def test_balanced_values_are_sums(self):
        draw = draws(10)
        for world in self.worlds():
            net = net_of(world)
            many = len(net.arcs)
            values = [0] * many
            for _ in range(20):
                rises, falls = drawn_painting(draw, net, 0.9)
                word, ring = ring_or_cut(net, rises, falls, draw.randrange(many))
                if word == "ring":
                    values = moved(net, values, ring, draw.randint(-5, 5))
            self.assertTrue(balanced(net, values))
            self.assertTrue(self.are_sums(world, values))

    def are_sums(self, world, values):
        by_sum = dict(zip(own_sums(world), values))
        table = [[by_sum[name, 0, tick] for tick in range(world.ticks)] for name, _, _ in world.streams]
        return own_values(world, table) == values


if __name__ == "__main__":
    unittest.main()
