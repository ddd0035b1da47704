"""Walks (point 32)."""

import unittest

from helpers import Listing, doc_world, drawn_box, draws, fitting_box, large_world, own_fits, own_values, small_worlds
from surelyseen.boxes import Box
from surelyseen.errors import NotFitting, TooFar
from surelyseen.walks import walk
from surelyseen.world import World


def distance(first, second):
    return sum(abs(a - b) for row, other in zip(first, second) for a, b in zip(row, other))


class WalksTest(unittest.TestCase):
    def check_walk(self, box, first, second):
        kept = ([list(row) for row in first], [list(row) for row in second])
        runs = walk(box, first, second)
        self.assertIsInstance(runs, list)
        self.assertEqual((runs[0], runs[-1]), kept)
        self.assertEqual((first, second), kept)
        goal = own_values(box.world, second)
        for run, after in zip(runs, runs[1:]):
            self.assertTrue(own_fits(box, after))
            self.assertNotEqual(run, after)
            for value, following, end in zip(own_values(box.world, run), own_values(box.world, after), goal):
                if value != following:
                    self.assertEqual(abs(value - following), 1)
                    self.assertEqual(abs(following - end), abs(value - end) - 1)
        if first == second:
            self.assertEqual(runs, [first])
        return runs

    def test_between_all_runs(self):
        draw = draws(50)
        for world in small_worlds():
            listing = Listing(world)
            for many, slack in ((0, 0), (1, 1), (3, 1), (4, 0)):
                box = drawn_box(draw, world, many, slack)
                runs = [run for run, _ in listing.fitting(box)]
                for _ in range(15 if runs else 0):
                    self.check_walk(box, draw.choice(runs), draw.choice(runs))

    def test_tight_boxes(self):
        draw = draws(51)
        for world in small_worlds():
            listing = Listing(world)
            for share in (0.2, 0.5):
                box, hidden = fitting_box(draw, world, share, 1)
                runs = [run for run, _ in listing.fitting(box)]
                for _ in range(10):
                    self.check_walk(box, hidden, draw.choice(runs))

    def test_equal_runs(self):
        run = [[1, 2, 3, 4], [0, 1, 2, 3], [3, 2, 1, 0]]
        self.assertEqual(walk(Box(doc_world()), run, run), [run])
        self.assertEqual(walk(Box(doc_world()), run, [list(row) for row in run]), [run])

    def test_events_that_change_places(self):
        world = World([("a", 0, 1), ("b", 0, 1)], ticks=2, folds=[2])
        box = Box(world)
        for asked in (("a", 1, 0), ("b", 1, 0), ("all", 0, 0)):
            box = box.narrowed(asked, least=1, greatest=1)
        runs = self.check_walk(box, [[1, 0], [0, 1]], [[0, 1], [1, 0]])
        self.assertEqual(len(runs), 2)

    def test_not_fitting(self):
        box = Box(World([("a", 0, 300)], ticks=2, folds=[2])).narrowed(("a", 1, 0), greatest=400)
        good = [[1, 2]]
        wrong = [[[300, 101]], [[301, 0]], [[-1, 0]], [], [[]], [[1]], [[1, 2, 3]], [[1, 2], [1, 2]]]
        for table in wrong:
            for first, second, number in ((table, good, 1), (good, table, 2), (table, table, 1), (table, [[300, 0]], 1)):
                with self.assertRaises(NotFitting) as caught:
                    walk(box, first, second)
                self.assertEqual(caught.exception.number, number)
        with self.assertRaises(NotFitting) as caught:
            walk(box.narrowed(("a", 0, 0), least=1, greatest=0), good, good)
        self.assertEqual(caught.exception.number, 1)

    def test_too_far(self):
        box = Box(World([("a", 0, 300)], ticks=2, folds=[2]))
        self.check_walk(box, [[0, 0]], [[200, 0]])
        self.check_walk(box, [[0, 100]], [[100, 0]])
        self.check_walk(box, [[0, 100]], [[100, 200]])
        for first, second, far in (([[0, 0]], [[201, 0]], 201), ([[0, 101]], [[100, 0]], 201), ([[0, 0]], [[101, 100]], 201),
                                   ([[300, 0]], [[0, 300]], 600)):
            with self.assertRaises(TooFar) as caught:
                walk(box, first, second)
            self.assertEqual(caught.exception.distance, far)
        with self.assertRaises(NotFitting):
            walk(box, [[0, 0]], [[301, 0]])

    def test_large_worlds(self):
        draw = draws(52)
        world = large_world()
        for many in (1, 5, 100):
            box = Box(world)
            first = [[500000] * 16 for _ in range(6)]
            second = [list(row) for row in first]
            for _ in range(many):
                second[draw.randrange(6)][draw.randrange(16)] += draw.choice([-1, -1, 1, 2])
            for asked, a, b in zip([row[0] for row in box], own_values(world, first), own_values(world, second)):
                box = box.narrowed(asked, least=min(a, b), greatest=max(a, b))
            self.assertLessEqual(distance(first, second), 200)
            self.check_walk(box, first, second)

    def test_returned_lists_may_change(self):
        box = Box(World([("a", 0, 9)], ticks=2, folds=[2]))
        first, second = [[0, 0]], [[0, 2]]
        runs = walk(box, first, second)
        runs[0][0][0] = 7
        runs[-1][0].clear()
        self.assertEqual((first, second), ([[0, 0]], [[0, 2]]))
        self.assertEqual(runs[1], [[0, 1]])
        first[0][0] = 9
        self.assertEqual(walk(box, second, second), [second])


if __name__ == "__main__":
    unittest.main()
