"""Schedules: which sums are kept how long (points 78 and 79)."""

import unittest

from forgetting import Telling
from helpers import draws, large_world, own_cells, own_sums, own_value, small_worlds
from surelyseen.errors import NoSuchSum
from surelyseen.schedules import first_lost, kept_at
from surelyseen.telling import shows_lost
from surelyseen.world import World


def own_end(world, asked):
    """The end of a sum's window: its last tick plus 1."""
    return max(tick for _, tick in own_cells(world, asked)) + 1


def own_kept(world, schedule, now):
    found = []
    for asked in own_sums(world):
        since = now - own_end(world, asked)
        if since >= 0 and any((who, level) == asked[:2] and since <= age for who, level, age in schedule):
            found.append(asked)
    return found


def own_first_lost(telling, schedule, promises):
    """The word, the time and the sum of the first loss, or None."""
    world = telling.world
    for now in range(1, world.ticks + 1):
        hand = own_kept(world, schedule, now - 1) + [(name, 0, now - 1) for name, _, _ in world.streams]
        kept = own_kept(world, schedule, now)
        for word, by, wanted in (("unmade", hand, kept), ("lost", kept, own_kept(world, promises, now))):
            for asked in wanted:
                if not telling.tells(by, asked):
                    return (word, now, asked), by
    return None, None


def drawn_schedule(draw, world, many):
    pairs = sorted({asked[:2] for asked in own_sums(world)})
    return [draw.choice(pairs) + (draw.choice([0, 0, 1, 1, 2, 3, 100]),) for _ in range(many)]


class KeptTest(unittest.TestCase):
    def test_ordinary(self):
        world = World([("a", 0, 9), ("b", 0, 9)], ticks=4, folds=[2, 4])
        schedule = [("b", 1, 1), ("a", 0, 0), ("all", 2, 100), ("b", 1, 0)]
        for now, found in (
            (0, []), (1, [("a", 0, 0)]), (2, [("a", 0, 1), ("b", 1, 0)]), (3, [("a", 0, 2), ("b", 1, 0)]), (4, [("a", 0, 3), ("b", 1, 1), ("all", 2, 0)]),
        ):
            self.assertEqual(kept_at(world, schedule, now), found)
        self.assertEqual(kept_at(world, [("a", 0, 100), ("a", 0, 0)], 4), [("a", 0, tick) for tick in range(4)])
        for now in range(5):
            self.assertEqual(kept_at(world, [], now), [])

    def test_against_each_sum(self):
        draw = draws(560)
        for world in small_worlds() + [large_world()]:
            for many in (1, 2, 4, 12):
                schedule = drawn_schedule(draw, world, many)
                for now in range(world.ticks + 1):
                    self.assertEqual(kept_at(world, schedule, now), own_kept(world, schedule, now))


class FirstLostTest(unittest.TestCase):
    def check(self, world, schedule, promises, expected, by):
        found = first_lost(world, schedule, promises)
        if expected is None:
            self.assertIsNone(found)
            return None
        word, now, asked, run, other = found
        self.assertEqual((word, now, asked), expected)
        self.assertTrue(shows_lost(world, by, asked, run, other))
        for one in by:
            self.assertEqual(own_value(world, run, one), own_value(world, other, one))
        self.assertNotEqual(own_value(world, run, asked), own_value(world, other, asked))
        return word

    def test_against_all_runs(self):
        draw = draws(561)
        words = []
        worlds = [world for world in small_worlds() if world.ticks < 8] + [World([("a", 2, 2), ("b", 0, 1)], ticks=4, folds=[2, 4])]
        for world in worlds:
            telling = Telling(world)
            for _ in range(25):
                schedule = drawn_schedule(draw, world, draw.randint(0, 4))
                cells = [(name, 0, draw.choice([0, 1, 3])) for name, _, _ in world.streams]
                schedule += draw.choice([[], cells])
                promises = drawn_schedule(draw, world, draw.choice([0, 1, 1, 2]))
                expected, by = own_first_lost(telling, schedule, promises)
                words.append(self.check(world, schedule, promises, expected, by))
        for word in (None, "unmade", "lost"):
            self.assertGreater(words.count(word), 20)

    def test_the_examples(self):
        world = World([("a", 0, 3)], ticks=4, folds=[2, 4])
        self.assertIsNone(first_lost(world, [("a", 0, 2), ("a", 1, 9)], [("a", 1, 9), ("a", 2, 9)]))
        self.assertEqual(first_lost(world, [("a", 2, 9)], [("a", 2, 9)])[:3], ("unmade", 4, ("a", 2, 0)))

    def test_ages(self):
        world = World([("a", 0, 3)], ticks=4, folds=[2, 4])
        # at time 2 the cell 0, kept at time 1 with the age 0, is at hand
        self.assertIsNone(first_lost(world, [("a", 0, 0), ("a", 1, 100)], [("a", 1, 100), ("a", 2, 100)]))
        self.assertEqual(first_lost(world, [("a", 1, 100)], [])[:3], ("unmade", 2, ("a", 1, 0)))
        self.assertEqual(first_lost(world, [("a", 0, 0), ("a", 1, 1)], [("a", 1, 2)])[:3], ("lost", 4, ("a", 1, 0)))
        self.assertEqual(first_lost(world, [("a", 0, 0), ("a", 1, 0), ("a", 2, 0)], [])[:3], ("unmade", 4, ("a", 2, 0)))
        self.assertIsNone(first_lost(world, [("a", 0, 0), ("a", 1, 1), ("a", 2, 0)], []))

    def test_no_rules(self):
        world = World([("a", 0, 3)], ticks=4, folds=[2, 4])
        self.assertIsNone(first_lost(world, [], []))
        self.assertEqual(first_lost(world, [], [("a", 0, 0)])[:3], ("lost", 1, ("a", 0, 0)))
        self.assertIsNone(first_lost(world, [("a", 0, 100)], []))
        fixed = World([("a", 3, 3)], ticks=4, folds=[2, 4])
        self.assertIsNone(first_lost(fixed, [], [("a", 0, 100), ("all", 2, 100)]))
        self.assertIsNone(first_lost(fixed, [("a", 2, 100)], []))

    def test_unmade_comes_before_lost(self):
        world = World([("a", 0, 3), ("b", 0, 3)], ticks=4, folds=[2, 4])
        schedule, promises = [("all", 1, 5), ("b", 0, 0)], [("a", 1, 3)]
        self.assertEqual(first_lost(world, schedule, promises)[:3], ("unmade", 2, ("all", 1, 0)))
        self.assertEqual(first_lost(world, [("b", 0, 0)], promises)[:3], ("lost", 2, ("a", 1, 0)))

    def test_large(self):
        world = large_world()
        cells = [(name, 0, 100) for name in "abcdef"]
        every = [(who, len(world.folds) if who in dict(world.groups) else 1, 100) for who in ("trio", "inner", "all", "a", "b", "outer")]
        self.assertIsNone(first_lost(world, cells + every, [("all", level, 100) for level in range(5)] + [("four", 0, 100)]))
        folded = [(name, 0, 1) for name in "abcdef"] + [(name, 1, 100) for name in "abcdef"]
        word, now, asked, run, other = first_lost(world, folded, [("trio", 4, 100), ("all", 2, 5), ("four", 0, 3)])
        self.assertEqual((word, now, asked), ("lost", 4, ("four", 0, 0)))
        self.assertTrue(shows_lost(world, own_kept(world, folded, 4), asked, run, other))
        self.assertIsNone(first_lost(world, folded, [("trio", 4, 100), ("all", 2, 5), ("four", 0, 1)]))

    def test_rules_that_do_not_exist(self):
        world = World([("a", 0, 3), ("b", 0, 3), ("c", 0, 1)], ticks=4, folds=[2, 4], groups=[("g", ["a", "b"])])
        good, one, other = ("a", 1, 3), ("g", 1, 3), ("x", 0, 3)
        for call, wrong in (
            (lambda: kept_at(world, [good, one, other], 2), one), (lambda: kept_at(world, [other], 0), other), (lambda: kept_at(world, [("a", 3, 1)], 0), ("a", 3, 1)),
            (lambda: first_lost(world, [one], [other]), one), (lambda: first_lost(world, [good], [good, other, one]), other),
            (lambda: first_lost(world, [("a", 2, 9)], [one]), one), (lambda: kept_at(world, [("a", -1, 0)], 1), ("a", -1, 0)),
        ):
            with self.assertRaises(NoSuchSum) as caught:
                call()
            self.assertEqual(caught.exception.asked, wrong[:2] + (0,))

    def test_lists_may_change_afterwards(self):
        world = World([("a", 0, 3)], ticks=4, folds=[2, 4])
        schedule, promises = [("a", 0, 0)], [("a", 1, 0)]
        kept_at(world, schedule, 1).clear()
        found = first_lost(world, schedule, promises)
        found[3][0][0] = found[4][0][1] = 8
        self.assertEqual((schedule, promises), ([("a", 0, 0)], [("a", 1, 0)]))
        self.assertEqual(kept_at(world, schedule, 1), [("a", 0, 0)])
        word, now, asked, run, other = first_lost(world, schedule, promises)
        self.assertTrue(shows_lost(world, [("a", 0, 1)], asked, run, other))


if __name__ == "__main__":
    unittest.main()
