"""Heights (points 19 to 24)."""

import itertools
import unittest

from helpers import draws
from surelyseen.errors import BadNet, NoHeights
from surelyseen.heights import cheapest_way, difference, heights_or_ring
from surelyseen.steps import fits_facts, is_low_ring, is_way, way_cost


def own_steps(facts):
    """step: (start, end, cost) for all steps that exist."""
    found = {}
    for fact, (a, b, least, greatest) in enumerate(facts):
        if greatest is not None:
            found[fact, "high"] = (a, b, greatest)
        if least is not None:
            found[fact, "low"] = (b, a, -least)
    return found


def cheapest_costs(points, facts):
    """The cheapest costs between all points by going through every point in turn; below 0 from a point to itself: a ring."""
    far = float("inf")
    costs = [[0 if a == b else far for b in range(points)] for a in range(points)]
    for start, end, cost in own_steps(facts).values():
        costs[start][end] = min(costs[start][end], cost)
    for middle in range(points):
        for a in range(points):
            for b in range(points):
                costs[a][b] = min(costs[a][b], costs[a][middle] + costs[middle][b])
    return costs


def own_is_way(facts, a, b, way):
    steps = own_steps(facts)
    points = [a]
    for step in way:
        if step not in steps or steps[step][0] != points[-1]:
            return False
        points.append(steps[step][1])
    return points[-1] == b and len(set(points)) == len(points)


def own_is_low_ring(facts, ring):
    steps = own_steps(facts)
    if not ring or any(step not in steps for step in ring):
        return False
    starts = [steps[step][0] for step in ring]
    ends = [steps[step][1] for step in ring]
    joined = all(end == start for end, start in zip(ends, starts[1:] + starts[:1]))
    return joined and len(set(starts)) == len(starts) and sum(steps[step][2] for step in ring) < 0


def own_meets(facts, heights):
    return all(
        (least is None or heights[b] - heights[a] >= least) and (greatest is None or heights[b] - heights[a] <= greatest)
        for a, b, least, greatest in facts
    )


def drawn_facts(draw, points, many, hidden=None, slack=3):
    """Facts about drawn points; around hidden heights, if there are any, so that they fit."""
    facts = []
    for _ in range(many):
        a, b = draw.sample(range(points), 2)
        rise = draw.randint(-5, 5) if hidden is None else hidden[b] - hidden[a]
        least = rise - draw.randint(0, slack)
        greatest = rise + (draw.randint(0, slack) if hidden is not None or draw.random() < 0.9 else -slack)
        facts.append((a, b, draw.choice([least, least, None]), draw.choice([greatest, greatest, None])))
    return facts


class StepsTest(unittest.TestCase):
    facts = [(0, 1, 2, 5), (1, 2, None, 3), (2, 0, -4, None), (0, 1, 3, 3), (3, 2, None, None)]

    def test_way_cost(self):
        self.assertEqual(way_cost(self.facts, []), 0)
        self.assertEqual(way_cost(self.facts, [(0, "high")]), 5)
        self.assertEqual(way_cost(self.facts, [(0, "low")]), -2)
        self.assertEqual(way_cost(self.facts, [(2, "low")]), 4)
        self.assertEqual(way_cost(self.facts, [(0, "high"), (1, "high"), (2, "low"), (3, "low"), (0, "high")]), 14)

    def test_is_way(self):
        yes = [(0, 0, []), (3, 3, []), (0, 1, [(0, "high")]), (0, 1, [(3, "high")]), (1, 0, [(0, "low")]),
               (0, 2, [(0, "high"), (1, "high")]), (0, 2, [(2, "low")]), (1, 2, [(3, "low"), (2, "low")])]
        for a, b, way in yes:
            self.assertIs(is_way(self.facts, a, b, way), True, (a, b, way))
        no = [(0, 1, []), (1, 0, [(0, "high")]), (0, 1, [(0, "low")]), (0, 0, [(0, "high"), (0, "low")]),
              (0, 1, [(0, "high"), (0, "low"), (3, "high")]), (2, 1, [(1, "low")]), (2, 0, [(2, "high")]),
              (2, 3, [(4, "low")]), (3, 2, [(4, "high")]), (0, 1, [(5, "high")]), (0, 1, [(-5, "high")]),
              (0, 1, [(-2, "high")]), (0, 1, [(0, "up")]), (0, 1, [(0, "")]), (0, 1, [(0, "HIGH")]),
              (0, 2, [(0, "high")]), (0, 2, [(1, "high")]), (0, 2, [(1, "high"), (0, "high")]), (0, 0, [(9, "low")])]
        for a, b, way in no:
            self.assertIs(is_way(self.facts, a, b, way), False, (a, b, way))

    def test_is_low_ring(self):
        facts = [(0, 1, 3, 2), (1, 2, None, -4), (2, 0, None, 3), (2, 0, None, 4), (0, 1, 1, 1), (1, 0, None, -1)]
        yes = [[(0, "high"), (0, "low")], [(0, "low"), (0, "high")], [(0, "low"), (4, "high")], [(4, "high"), (0, "low")]]
        for ring in yes:
            self.assertIs(is_low_ring(facts, ring), True, ring)
        no = [[], [(0, "high")], [(4, "high"), (4, "low")], [(4, "high"), (5, "high")], [(4, "high"), (1, "high"), (3, "high")],
              [(4, "high"), (1, "high")], [(0, "high"), (0, "low"), (0, "high"), (0, "low")], [(1, "low"), (1, "high")],
              [(0, "high"), (4, "low"), (4, "high"), (0, "low")], [(6, "high"), (0, "low")], [(-6, "high"), (-6, "low")],
              [(0, "high"), (0, "down")], [(1, "high"), (2, "high"), (2, "low")]]
        for ring in no:
            self.assertIs(is_low_ring(facts, ring), False, ring)
        self.assertIs(is_low_ring(facts, [(0, "high"), (1, "high"), (2, "high")]), False)
        self.assertIs(is_low_ring([(0, 1, None, 2), (1, 2, None, -4), (2, 0, None, 1)], [(1, "high"), (2, "high"), (0, "high")]), True)
        self.assertIs(is_low_ring([(0, 1, None, 2), (1, 2, None, -4), (2, 0, None, 2)], [(1, "high"), (2, "high"), (0, "high")]), False)

    def test_fits_facts(self):
        facts = [(0, 1, 2, 5), (1, 2, None, 3), (2, 0, -4, None)]
        for heights, expected in (([0, 2, 4], True), ([0, 5, 4], True), ([7, 9, 11], True), ([0, 2, 5], False), ([0, 1, 4], False),
                                  ([0, 6, 4], False), ([0, 4, 8], False), ([0, 2, -100], True)):
            self.assertIs(fits_facts(facts, heights), expected, heights)
        self.assertIs(fits_facts([], [0]), True)
        self.assertIs(fits_facts([(0, 1, 3, 2)], [0, 3]), False)
        self.assertIs(fits_facts([(0, 1, 3, 2)], [0, 2]), False)
        self.assertIs(fits_facts([(0, 1, None, None)], [0, -1000]), True)

    def test_all_short_lists(self):
        facts = [(0, 1, 0, 1), (1, 2, 1, -1), (2, 0, -1, -1), (1, 0, None, -1)]
        steps = [(fact, side) for fact in range(-1, 5) for side in ("high", "low", "x")]
        for many in range(4):
            for way in itertools.product(steps, repeat=many):
                self.assertEqual(is_low_ring(facts, list(way)), own_is_low_ring(facts, list(way)))
                if many < 3:
                    for a, b in itertools.product(range(3), repeat=2):
                        self.assertEqual(is_way(facts, a, b, list(way)), own_is_way(facts, a, b, list(way)))


class HeightsTest(unittest.TestCase):
    def check(self, points, facts):
        """All three functions against the cheapest costs; returns whether heights fit."""
        kept = list(facts)
        costs = cheapest_costs(points, facts)
        word, found = heights_or_ring(points, facts)
        self.assertIsInstance(found, list)
        if any(costs[a][a] < 0 for a in range(points)):
            self.assertEqual(word, "ring")
            self.assertTrue(own_is_low_ring(facts, found))
            self.assertIs(is_low_ring(facts, found), True)
            for a, b in ((0, 0), (0, points - 1), (points - 1, 0)):
                for call in (difference, cheapest_way):
                    with self.assertRaises(NoHeights) as caught:
                        call(points, facts, a, b)
                    self.assertIsInstance(caught.exception.ring, list)
                    self.assertTrue(own_is_low_ring(facts, caught.exception.ring))
            return False
        self.assertEqual(word, "heights")
        self.assertEqual((len(found), found[0]), (points, 0))
        self.assertTrue(own_meets(facts, found))
        self.assertIs(fits_facts(facts, found), True)
        for a, b in itertools.product(range(points), repeat=2):
            self.check_pair(points, facts, costs, a, b)
        self.assertEqual(facts, kept)
        return True

    def check_pair(self, points, facts, costs, a, b):
        far = float("inf")
        least = None if costs[b][a] == far else -costs[b][a]
        greatest = None if costs[a][b] == far else costs[a][b]
        self.assertEqual(difference(points, facts, a, b), (least, greatest))
        way = cheapest_way(points, facts, a, b)
        if greatest is None:
            self.assertIsNone(way)
        else:
            self.assertIsInstance(way, list)
            self.assertTrue(own_is_way(facts, a, b, way))
            self.assertIs(is_way(facts, a, b, way), True)
            self.assertEqual(way_cost(facts, way), greatest)

    def test_one_point(self):
        self.assertEqual(heights_or_ring(1, []), ("heights", [0]))
        self.assertEqual(difference(1, [], 0, 0), (0, 0))
        self.assertEqual(cheapest_way(1, [], 0, 0), [])

    def test_no_facts(self):
        self.assertEqual(difference(2, [], 0, 1), (None, None))
        self.assertIsNone(cheapest_way(2, [], 0, 1))
        self.assertEqual(cheapest_way(2, [], 1, 1), [])
        word, heights = heights_or_ring(3, [])
        self.assertEqual((word, len(heights), heights[0]), ("heights", 3, 0))

    def test_one_fact(self):
        self.assertEqual(difference(2, [(0, 1, 3, 7)], 0, 1), (3, 7))
        self.assertEqual(difference(2, [(0, 1, 3, 7)], 1, 0), (-7, -3))
        self.assertEqual(difference(2, [(0, 1, 3, None)], 0, 1), (3, None))
        self.assertEqual(difference(2, [(0, 1, 3, None)], 1, 0), (None, -3))
        self.assertEqual(difference(2, [(0, 1, None, 7)], 0, 1), (None, 7))
        self.assertEqual(difference(2, [(0, 1, None, None)], 0, 1), (None, None))
        self.assertEqual(cheapest_way(2, [(0, 1, 3, 7)], 0, 1), [(0, "high")])
        self.assertEqual(cheapest_way(2, [(0, 1, 3, 7)], 1, 0), [(0, "low")])
        self.assertIsNone(cheapest_way(2, [(0, 1, 3, None)], 0, 1))

    def test_least_above_greatest(self):
        word, ring = heights_or_ring(3, [(1, 2, 5, 4)])
        self.assertEqual((word, sorted(ring)), ("ring", [(0, "high"), (0, "low")]))
        for a, b in ((0, 0), (1, 2), (0, 2), (2, 2)):
            with self.assertRaises(NoHeights) as caught:
                difference(3, [(1, 2, 5, 4)], a, b)
            self.assertTrue(own_is_low_ring([(1, 2, 5, 4)], caught.exception.ring))

    def test_met_exactly_and_broken_by_one(self):
        exact = [(0, 1, 2, 2), (1, 2, 3, 3), (2, 3, -4, -4), (0, 3, 1, 1)]
        self.assertEqual(heights_or_ring(4, exact), ("heights", [0, 2, 5, 1]))
        self.assertEqual(difference(4, exact, 3, 1), (1, 1))
        for place in range(4):
            for shift in (-1, 1):
                a, b, least, greatest = exact[place]
                facts = exact[:place] + [(a, b, least + shift, greatest + shift)] + exact[place + 1:]
                word, ring = heights_or_ring(4, facts)
                self.assertEqual((word, len(ring)), ("ring", 4))
                self.assertTrue(own_is_low_ring(facts, ring))

    def test_bad_net_before_everything_else(self):
        clash = (0, 1, 5, 4)
        for bad in ((0, 0, 1, 2), (0, 3, 1, 2), (3, 0, 1, 2), (-1, 0, 1, 2), (0, -1, 1, 2), (1, 1, None, None)):
            for facts in ([bad], [clash, bad], [bad, clash]):
                with self.assertRaises(BadNet):
                    heights_or_ring(3, facts)
                for call in (difference, cheapest_way):
                    for a, b in ((0, 1), (0, 0), (7, 0)):
                        with self.assertRaises(BadNet):
                            call(3, facts, a, b)
        for call in (difference, cheapest_way):
            for a, b in ((3, 0), (0, 3), (-1, 0), (0, -1), (3, 3), (-1, -1)):
                for facts in ([], [clash]):
                    with self.assertRaises(BadNet):
                        call(3, facts, a, b)

    def test_every_difference_between_is_taken(self):
        facts = [(0, 1, 0, 3), (1, 2, -1, 2), (0, 2, 1, 4), (2, 3, None, 1), (3, 0, -3, 2)]
        met = [
            heights for heights in itertools.product([0], range(-9, 10), range(-9, 10), range(-9, 10))
            if own_meets(facts, heights)
        ]
        for a, b in itertools.product(range(4), repeat=2):
            taken = sorted({heights[b] - heights[a] for heights in met})
            least, greatest = difference(4, facts, a, b)
            self.assertEqual(taken, list(range(least, greatest + 1)))

    def test_drawn_facts(self):
        draw = draws(11)
        words = [0, 0]
        for _ in range(400):
            points = draw.randint(2, 6)
            hidden = [draw.randint(-9, 9) for _ in range(points)] if draw.random() < 0.5 else None
            facts = drawn_facts(draw, points, draw.randint(0, 8), hidden, draw.randint(0, 3))
            words[self.check(points, facts)] += 1
        self.assertGreater(min(words), 40)

    def test_a_low_ring_can_be_met_without_any_one_step(self):
        draw = draws(12)
        seen = 0
        for _ in range(100):
            facts = drawn_facts(draw, 5, 10)
            word, ring = heights_or_ring(5, facts)
            if word == "ring":
                seen += 1
                alone = [self.only(facts, step) for step in ring]
                self.assertEqual(heights_or_ring(5, alone)[0], "ring")
                for place in range(len(alone)):
                    self.assertEqual(heights_or_ring(5, alone[:place] + alone[place + 1:])[0], "heights")
        self.assertGreater(seen, 30)

    def only(self, facts, step):
        a, b, least, greatest = facts[step[0]]
        return (a, b, None, greatest) if step[1] == "high" else (a, b, least, None)

    def test_large_numbers_and_many_points(self):
        draw = draws(13)
        big = 999999999999
        self.check(3, [(0, 1, -big, big), (1, 2, big, big), (2, 0, None, -1)])
        hidden = [draw.randint(0, big) for _ in range(60)]
        facts = drawn_facts(draw, 60, 400, hidden, 1000000)
        costs = cheapest_costs(60, facts)
        word, heights = heights_or_ring(60, facts)
        self.assertEqual(word, "heights")
        self.assertTrue(own_meets(facts, heights))
        for _ in range(30):
            self.check_pair(60, facts, costs, draw.randrange(60), draw.randrange(60))
        chain = [(k, k + 1, 1, 1) for k in range(59)]
        self.assertEqual(heights_or_ring(60, chain[::-1]), ("heights", list(range(60))))
        self.assertEqual(cheapest_way(60, chain, 0, 59), [(k, "high") for k in range(59)])
        broken = chain[::-1] + [(0, 59, None, 58)] + [(0, 1, None, None)] * 340
        word, ring = heights_or_ring(60, broken)
        self.assertEqual((word, len(ring)), ("ring", 60))
        self.assertTrue(own_is_low_ring(broken, ring))

    def test_changed_lists_have_no_effect(self):
        facts = [(0, 1, 5, 4)]
        with self.assertRaises(NoHeights) as caught:
            difference(2, facts, 0, 1)
        facts.append((0, 1, 0, 0))
        self.assertTrue(own_is_low_ring([(0, 1, 5, 4)], caught.exception.ring))
        caught.exception.ring.clear()
        word, ring = heights_or_ring(2, facts)
        ring.clear()
        self.assertTrue(own_is_low_ring(facts, heights_or_ring(2, facts)[1]))
        way = cheapest_way(2, [(0, 1, 4, 5)], 0, 1)
        way.clear()
        self.assertEqual(cheapest_way(2, [(0, 1, 4, 5)], 0, 1), [(0, "high")])


if __name__ == "__main__":
    unittest.main()
