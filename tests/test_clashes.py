"""Which items cannot be true together (point 44)."""

import itertools
import unittest

from happenings import Happenings, drawn_items, small_setups
from helpers import all_runs, doc_world, drawn_run, draws, large_world
from sureness import own_least_clash
from surelyseen.clashes import least_clash
from surelyseen.errors import BadItem, NoSuchSum
from surelyseen.flows import fit
from surelyseen.gathering import box_of, reported
from surelyseen.items import written_item
from surelyseen.samples import sampled
from surelyseen.setups import Setup
from surelyseen.world import World


class LeastClashTest(unittest.TestCase):
    def check_least(self, setup, items, found):
        """No run fits what was found; some run does if any one item is left out."""
        self.assertEqual(fit(box_of(setup, found))[0], "clash")
        for place in range(len(found)):
            self.assertEqual(fit(box_of(setup, found[:place] + found[place + 1:]))[0], "run")
        self.assertTrue(set(found) <= set(items))
        lines = [written_item(item) for item in found]
        self.assertEqual(lines, sorted(set(lines)))

    def test_against_all_that_could_have_happened(self):
        draw = draws(90)
        clashes = 0
        for setup in small_setups():
            happenings = Happenings(setup)
            runs = list(all_runs(setup.world))
            for share, wrong in ((0.4, 0), (0.5, 1), (0.4, 2), (0.3, 3), (0.1, 4), (0.6, 3), (0, 6)):
                items = drawn_items(draw, setup, draw.choice(runs), share, wrong)
                expected = own_least_clash(items, lambda some: any(happenings.fits(some, run) for run in runs))
                clashes += expected is not None
                kept_items = list(items)
                for _ in range(3):
                    self.assertEqual(least_clash(setup, items), expected)
                    self.assertEqual(items, kept_items)
                    draw.shuffle(items)
                    kept_items = list(items)
                if expected is not None:
                    self.check_least(setup, items, expected)
        self.assertTrue(20 < clashes < 80)

    def test_every_order(self):
        setup = Setup(World([("a", 0, 9), ("b", 0, 9)], ticks=2, folds=[2]), cap=3)
        items = [
            ("close", "a", 0, 2), ("count", "a", 0, 0, 3), ("total", ("a", 0, 0), 0, 3), ("total", ("all", 0, 0), 0, 3), ("count", "a", 0, 1, 1),
        ]
        expected = [("count", "a", 0, 1, 1), ("count", "a", 0, 0, 3), ("total", ("all", 0, 0), 0, 3)]
        expected = sorted(expected, key=written_item)
        for order in itertools.permutations(items):
            self.assertEqual(least_clash(setup, list(order)), expected)
            self.assertEqual(least_clash(setup, list(order) + [order[0], order[3]]), expected)

    def test_the_order_is_that_of_strings(self):
        """As strings "10" comes before "9", so the item with 10 is the first to be left out."""
        setup = Setup(World([("a", 0, 100)], ticks=2, folds=[2]), cap=9)
        items = [("total", ("a", 0, 0), 9, 9), ("total", ("a", 0, 0), 10, 10), ("total", ("a", 0, 0), 11, 11)]
        for order in itertools.permutations(items):
            self.assertEqual(least_clash(setup, list(order)), [items[2], items[0]])

    def test_some_run_fits(self):
        setup = Setup(doc_world(), cap=5, samples=[("bad", 3, 1, ["err"])])
        for items in ([], [("close", "ok", 0, 1)], [("close", "ok", 0, 1)] * 3, [("count", "ok", 0, 1, 5), ("close", "ok", 0, 2), ("rows", "bad", 1, ())]):
            self.assertIsNone(least_clash(setup, items))

    def test_one_item_alone(self):
        setup = Setup(doc_world(), cap=5)
        item = ("total", ("ok", 0, 0), 10, 99)
        self.assertEqual(least_clash(setup, [("close", "ok", 0, 1), item, item, ("close", "ok", 1, 1)]), [item])
        self.assertEqual(least_clash(setup, [("close", "ok", 0, 11)]), [("close", "ok", 0, 11)])

    def test_each_item_is_checked_in_order(self):
        setup = Setup(doc_world(), cap=5)
        bad = ("count", "ok", 0, 0, 6)
        no_sum = ("total", ("bad", 1, 0), 0, 0)
        with self.assertRaises(BadItem) as caught:
            least_clash(setup, [("close", "ok", 0, 1), ("close", "ok", 0, 2), bad, no_sum])
        self.assertEqual(caught.exception.item, bad)
        with self.assertRaises(NoSuchSum) as caught:
            least_clash(setup, [no_sum, bad])
        self.assertEqual(caught.exception.asked, ("bad", 1, 0))

    def test_60_items_of_a_large_world(self):
        draw = draws(91)
        world = large_world(0, 1000000)
        setup = Setup(world, cap=1000, samples=[("trio", 2, 0, ["b"]), ("all", 100, 0, [])])
        run = drawn_run(draw, world)
        items = [("total", asked, 100, 2000) for asked in (("a", 1, 0), ("b", 1, 0), ("c", 1, 0))]
        items += [("total", ("trio", 4, 0), 0, 5000), ("total", ("trio", 0, 9), 5001, 6000)]
        for tick in range(16):
            items += [("total", (name, 0, tick), run[k][tick] - 5, run[k][tick] + 5) for k, name in enumerate("def")]
        items += reported(setup, "a", 9, [7, 7, 7]) + sampled(setup, "trio", 8, ["a", "b"])
        draw.shuffle(items)
        items = items[:60]
        while fit(box_of(setup, items))[0] == "run":
            items[draw.randrange(60)] = ("total", ("trio", 0, 9), 5001, 6000)
            items[draw.randrange(60)] = ("total", ("trio", 4, 0), 0, 5000)
        found = least_clash(setup, items)
        self.check_least(setup, items, found)
        self.assertEqual(found, own_least_clash(items, lambda some: fit(box_of(setup, some))[0] == "run"))
        self.assertEqual(least_clash(setup, items[::-1]), found)

    def test_lists_may_change_afterwards(self):
        setup = Setup(doc_world(), cap=5)
        items = [("close", "ok", 0, 1), ("close", "ok", 0, 2)]
        found = least_clash(setup, items)
        found.clear()
        self.assertEqual(least_clash(setup, items), [("close", "ok", 0, 1), ("close", "ok", 0, 2)])


if __name__ == "__main__":
    unittest.main()
