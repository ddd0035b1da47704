"""What is told of a run of which everything is forgotten but some sums (points 73 to 75 and 79)."""

import unittest

from forgetting import Telling, drawn_sums, told_by_rows
from helpers import check_unit, draws, large_world, own_sums, own_value, own_weights, small_worlds
from surelyseen.errors import NoSuchSum
from surelyseen.telling import shows_lost, shows_told, told_by, told_sums
from surelyseen.world import World


def fixed_worlds():
    """Worlds with fixed cells."""
    return [
        World([("a", 1, 2), ("b", 3, 3), ("c", 0, 2)], ticks=2, folds=[2], groups=[("g", ["b", "c"])]),
        World([("a", 2, 2), ("b", 0, 1)], ticks=4, folds=[2, 4]),
        World([("a", 2, 2), ("b", 0, 0)], ticks=2, folds=[2]),
        World([("a", 5, 5)], ticks=4, folds=[2, 4]),
        World([("a", 0, 1), ("b", 4, 4), ("c", 0, 0), ("d", 0, 1)], ticks=2, folds=[2], groups=[("g", ["a", "b"]), ("h", ["c", "d"])]),
    ]


class ToldTest(unittest.TestCase):
    def check(self, world, kept, asked, told):
        """The answer has the word that it must have, and shows it; the word."""
        given = told_by(world, list(kept), asked)
        fixed = [(name, 0, tick) for name, low, high in world.streams if low == high for tick in range(world.ticks)]
        if told:
            word, balance = given
            self.assertEqual(word, "told")
            self.assertEqual(own_weights(world, balance), own_weights(world, [(asked, 1)]))
            check_unit(self, balance)
            named = [one for one, _ in balance]
            self.assertEqual(len(set(named)), len(named))
            self.assertTrue(all(one in kept or one in fixed for one in named))
            self.assertTrue(shows_told(world, kept, asked, balance))
        else:
            word, run, other = given
            self.assertEqual(word, "lost")
            for counts, others, (_, low, high) in zip(run, other, world.streams):
                self.assertEqual((len(counts), len(others)), (world.ticks, world.ticks))
                for count, one in zip(counts, others):
                    self.assertTrue(low <= count <= high and low <= one <= high and abs(count - one) <= 1)
            for one in kept:
                self.assertEqual(own_value(world, run, one), own_value(world, other, one))
            self.assertNotEqual(own_value(world, run, asked), own_value(world, other, asked))
            self.assertEqual((len(run), len(other)), (len(world.streams),) * 2)
            self.assertTrue(shows_lost(world, kept, asked, run, other))
        return word

    def test_against_all_runs(self):
        draw = draws(540)
        words = []
        for world in small_worlds() + fixed_worlds():
            telling = Telling(world)
            for _ in range(16):
                kept = drawn_sums(draw, world, draw.choice([0, 1, 2, 3, 4, 6, 9, 14]))
                told = telling.told(kept)
                self.assertEqual(told_sums(world, kept), told)
                for asked in draw.sample(telling.sums, min(6, len(telling.sums))):
                    words.append(self.check(world, kept, asked, asked in told))
        self.assertGreater(words.count("told"), 150)
        self.assertGreater(words.count("lost"), 150)

    def test_the_example(self):
        world = World([("a", 0, 1), ("b", 0, 1)], ticks=2, folds=[2])
        kept = [("a", 1, 0), ("b", 1, 0), ("all", 0, 0)]
        balance = [(("a", 1, 0), 1), (("b", 1, 0), 1), (("all", 0, 0), -1)]
        word, found = told_by(world, kept, ("all", 0, 1))
        self.assertEqual((word, sorted(found)), ("told", sorted(balance)))
        self.assertTrue(shows_told(world, kept, ("all", 0, 1), balance))
        four = kept + [("all", 0, 1)]
        self.check(world, four, ("a", 0, 0), False)
        self.assertTrue(shows_lost(world, four, ("a", 0, 0), [[1, 0], [0, 1]], [[0, 1], [1, 0]]))

    def test_told_by_nothing(self):
        for world in fixed_worlds():
            told = Telling(world).told([])
            self.assertEqual(told_sums(world, []), told)
            for asked in own_sums(world):
                self.check(world, [], asked, asked in told)
        world = World([("a", 2, 2), ("b", 0, 0)], ticks=2, folds=[2])
        self.assertEqual(told_sums(world, []), own_sums(world))
        self.assertEqual(told_sums(World([("a", 0, 1)], ticks=2, folds=[2]), []), [])

    def test_kept_sums_and_fixed_cells_themselves(self):
        world = fixed_worlds()[0]
        self.check(world, [("g", 1, 0), ("a", 0, 1), ("g", 1, 0)], ("g", 1, 0), True)
        self.check(world, [], ("b", 0, 1), True)
        self.check(world, [("b", 0, 1)] * 60, ("b", 1, 0), True)
        self.check(world, [("g", 0, 1), ("g", 0, 1)], ("c", 0, 1), True)
        self.check(world, [("g", 0, 1)] * 3, ("c", 0, 0), False)

    def test_shows_told(self):
        world = fixed_worlds()[0]
        kept = [("g", 0, 0), ("a", 1, 0), ("g", 0, 0)]
        good = [(("g", 0, 0), 1), (("b", 0, 0), -1)]
        self.assertTrue(shows_told(world, kept, ("c", 0, 0), good))
        self.assertTrue(shows_told(world, kept, ("c", 0, 0), good[::-1]))
        for wrong in (
            [], good[:1], good + good[:1], [(("c", 0, 0), 1)], [(("g", 0, 0), -1), (("b", 0, 0), 1)], good + [(("a", 1, 0), 1)],
            [(("g", 0, 0), 2), (("b", 0, 0), -2)], good + [(("b", 0, 1), 1), (("b", 0, 1), -1)],
        ):
            self.assertFalse(shows_told(world, kept, ("c", 0, 0), wrong))
        self.assertFalse(shows_told(world, kept, ("c", 0, 1), good))
        self.assertFalse(shows_told(world, kept[1:2], ("c", 0, 0), good))
        twice = [(("g", 0, 0), 1), (("g", 0, 0), 1), (("g", 0, 0), -1), (("b", 0, 0), -1)]
        self.assertFalse(shows_told(world, kept, ("c", 0, 0), twice))
        pair = World([("a", 0, 1), ("b", 0, 1)], ticks=2, folds=[2])
        double = [(("a", 1, 0), 2), (("a", 0, 0), -1), (("a", 0, 1), -1)]
        self.assertFalse(shows_told(pair, [("a", 0, 0), ("a", 0, 1), ("a", 1, 0)], ("a", 1, 0), double))

    def test_shows_lost(self):
        world = World([("a", 0, 3), ("b", 1, 2)], ticks=2, folds=[2])
        kept = [("a", 1, 0), ("b", 0, 0)]
        good = ([[1, 1], [1, 2]], [[2, 0], [1, 2]])
        self.assertTrue(shows_lost(world, kept, ("a", 0, 0), *good))
        self.assertTrue(shows_lost(world, kept, ("a", 0, 0), *good[::-1]))
        self.assertTrue(shows_lost(world, kept, ("all", 0, 1), *good))
        self.assertFalse(shows_lost(world, kept, ("all", 1, 0), *good))
        self.assertFalse(shows_lost(world, kept + [("a", 0, 1)], ("a", 0, 0), *good))
        for wrong in (
            [[3, -1], [1, 2]], [[3, 0], [1, 2]], [[2, 0], [1]], [[2, 0]], [], [[2, 0], [1, 2], [0, 0]], [[2, 0, 0], [1, 2]], [[2, 0], [0, 2]], [[2, 0], [2, 1]],
            [[2, 1], [1, 2]], [[1, 1], [1, 2]],
        ):
            self.assertFalse(shows_lost(world, kept, ("a", 0, 0), good[0], wrong))
            self.assertFalse(shows_lost(world, kept, ("a", 0, 0), wrong, good[0]))
        far = ([[3, 0], [1, 1]], [[1, 2], [1, 1]])
        self.assertFalse(shows_lost(world, kept, ("a", 0, 0), *far))

    def test_large_worlds(self):
        draw = draws(541)
        words = []
        for world in (large_world(), large_world(0, 1), large_world(1000000, 1000000)):
            for many in (0, 1, 20, 60, 150):
                kept = drawn_sums(draw, world, many)
                told = told_sums(world, kept)
                for asked in draw.sample(own_sums(world), 12):
                    words.append(self.check(world, kept, asked, asked in told))
        self.assertGreater(words.count("lost"), 50)
        world = World([("a", 0, 9), ("b", 3, 3), ("c", 0, 1000000)], ticks=8, folds=[4, 8], groups=[("g", ["c", "a"])])
        for _ in range(4):
            kept = drawn_sums(draw, world, 20)
            self.assertEqual(told_sums(world, kept), [asked for asked in own_sums(world) if told_by_rows(world, kept, asked)])

    def test_sums_that_do_not_exist(self):
        world = fixed_worlds()[0]
        good, one, other, third = ("a", 0, 0), ("g", 0, 2), ("x", 0, 0), ("a", 5, 0)
        run = [[1, 1], [3, 3], [0, 0]]
        for call, wrong in (
            (lambda: told_by(world, [good, one], other), one), (lambda: told_by(world, [good, other, one], good), other), (lambda: told_by(world, [good], one), one),
            (lambda: told_sums(world, [good, third, one]), third), (lambda: shows_told(world, [one], other, [(third, 1)]), one),
            (lambda: shows_told(world, [good], other, [(third, 1)]), other), (lambda: shows_told(world, [good], good, [(good, 1), (third, 1), (one, 1)]), third),
            (lambda: shows_told(world, [good], good, [(good, 1), (good, 1), (one, 1)]), one),
            (lambda: shows_lost(world, [good, one], other, run, run), one), (lambda: shows_lost(world, [], other, [], []), other),
        ):
            with self.assertRaises(NoSuchSum) as caught:
                call()
            self.assertEqual(caught.exception.asked, wrong)

    def test_lists_may_change_afterwards(self):
        world = World([("a", 0, 1), ("b", 0, 1)], ticks=2, folds=[2])
        kept = [("a", 1, 0), ("b", 1, 0), ("all", 0, 0)]
        given = list(kept)
        told_by(world, given, ("all", 0, 1))[1].clear()
        told_sums(world, given).clear()
        _, run, other = told_by(world, given, ("a", 0, 0))
        run[0][0] = other[1][1] = 9
        self.assertEqual(given, kept)
        self.assertEqual(len(told_by(world, kept, ("all", 0, 1))[1]), 3)
        self.check(world, kept, ("a", 0, 0), False)
        self.assertEqual(told_sums(world, kept), Telling(world).told(kept))


if __name__ == "__main__":
    unittest.main()
