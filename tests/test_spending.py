"""Budgets over the streams of a world (point 87)."""

import unittest

from helpers import Listing, draws, drawn_box, fitting_box, large_world, own_bound, own_fits, own_value, own_weights, small_worlds
from helpers import check_clash
from surelyseen.boxes import Box
from surelyseen.errors import BadList, NoRun, NoSuchSum
from surelyseen.spending import budget_state
from surelyseen.world import World


class SpendingTest(unittest.TestCase):
    def check(self, box, who, width, most, point):
        """The answer shows what it says; its word."""
        word, run, other = budget_state(box, who, width, most, point)
        ticks = range(point - width, point)
        self.assertTrue(own_fits(box, run))
        spent = sum(own_value(box.world, run, (who, 0, tick)) for tick in ticks)
        if word == "open":
            self.assertTrue(own_fits(box, other))
            self.assertTrue(sum(own_value(box.world, other, (who, 0, tick)) for tick in ticks) <= most < spent)
            return word
        self.assertEqual(own_weights(box.world, other), own_weights(box.world, [((who, 0, tick), 1) for tick in ticks]))
        if word == "yes":
            self.assertGreater(own_bound(box, other, 0), most)
        else:
            self.assertEqual(word, "no")
            self.assertLessEqual(own_bound(box, other, 1), most)
        return word

    def test_against_all_runs(self):
        draw = draws(620)
        words = []
        for world in small_worlds():
            listing = Listing(world)
            whos = [stream[0] for stream in world.streams] + [group[0] for group in world.groups] + ["all"]
            for _ in range(12):
                box = drawn_box(draw, world, draw.randint(0, 4), 1)
                fitting = [values for _, values in listing.fitting(box)]
                for _ in range(4):
                    who = draw.choice(whos)
                    point = draw.randint(1, world.ticks)
                    width = draw.randint(1, point)
                    most = draw.randint(-1, 2 * width * len(world.streams))
                    if not fitting:
                        with self.assertRaises(NoRun) as caught:
                            budget_state(box, who, width, most, point)
                        check_clash(self, box, caught.exception.balance)
                        continue
                    marks = {sum(values[(who, 0, tick)] for tick in range(point - width, point)) > most for values in fitting}
                    word = "open" if len(marks) == 2 else "yes" if True in marks else "no"
                    self.assertEqual(self.check(box, who, width, most, point), word)
                    words.append(word)
        for word in ("yes", "no", "open"):
            self.assertGreater(words.count(word), 30)

    def test_errors(self):
        world = World([("a", 0, 3), ("b", 0, 3)], ticks=4, folds=[2, 4])
        none = Box(world).narrowed(("a", 0, 0), least=2, greatest=1)
        for box in (Box(world), none):
            for width, point in ((0, 1), (-1, 2), (2, 1), (1, 5), (5, 5), (5, 4), (0, 0), (1, 0), (1, -1)):
                for who in ("a", "x"):
                    with self.assertRaises(BadList):
                        budget_state(box, who, width, 3, point)
            with self.assertRaises(NoSuchSum) as caught:
                budget_state(box, "x", 2, 3, 4)
            self.assertEqual(caught.exception.asked, ("x", 0, 2))
        with self.assertRaises(NoRun) as caught:
            budget_state(none, "b", 4, 3, 4)
        check_clash(self, none, caught.exception.balance)

    def test_edges(self):
        world = World([("a", 0, 3), ("b", 0, 3)], ticks=4, folds=[2, 4])
        box = Box(world).narrowed(("all", 2, 0), least=10, greatest=12)
        for who, width, point, most, word in (
            ("all", 4, 4, 9, "yes"), ("all", 4, 4, 10, "open"), ("all", 4, 4, 11, "open"), ("all", 4, 4, 12, "no"), ("all", 4, 4, -999999999999, "yes"),
            ("all", 4, 4, 999999999999, "no"), ("a", 1, 1, -1, "yes"), ("a", 1, 1, 0, "open"), ("a", 1, 4, 3, "no"), ("b", 3, 4, 8, "open"), ("b", 3, 4, 9, "no"),
        ):
            self.assertEqual(self.check(box, who, width, most, point), word)

    def test_large(self):
        draw = draws(621)
        world = large_world()
        for share in (0.2, 0.7):
            box, hidden = fitting_box(draw, world, share, 50000)
            for who in ("a", "inner", "four", "all"):
                width = draw.randint(1, 16)
                spent = sum(own_value(world, hidden, (who, 0, tick)) for tick in range(16 - width, 16))
                for most in (spent, spent - 1, -5, 999999999999):
                    self.check(box, who, width, most, 16)

    def test_returned_lists_may_change(self):
        world = World([("a", 0, 3), ("b", 0, 3)], ticks=2, folds=[2])
        box = Box(world)
        for most in (-1, 2, 99):
            _, run, other = budget_state(box, "all", 2, most, 2)
            run[0][0] = 77
            other.clear()
            self.check(box, "all", 2, most, 2)
        self.assertEqual(box, Box(world))


if __name__ == "__main__":
    unittest.main()
