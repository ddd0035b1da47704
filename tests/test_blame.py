"""Which faults were at work (points 95 to 97)."""

import itertools
import unittest

from blaming import Blaming, drawn_causes, least_ones
from helpers import check_clash, drawn_box, draws, large_world, small_worlds
from surelyseen.blame import blame, conflicts, least_faults
from surelyseen.boxes import Box
from surelyseen.causes import Causes, limits
from surelyseen.errors import BadName, OtherWorld
from surelyseen.world import World


def example():
    world = World([("err", 0, 9), ("web", 0, 9)], ticks=4, folds=[2, 4])
    return world, Causes(world, [0, 1], leans=[("web", "err", 1)], faults=[("f", "err", 0, 1, 5)])


class BlameTest(unittest.TestCase):
    def check(self, blaming, box):
        """All answers against the listing; the words of blame."""
        causes = blaming.causes
        names = [fault[0] for fault in causes.faults]
        lots = blaming.fitting_lots(box)
        least = least_ones(lots)
        self.assertEqual(least_faults(box, causes), least)
        every = [lot for lot in blaming.lots if all(set(lot) & set(other) for other in lots)]
        self.assertEqual(conflicts(box, causes), least_ones(every))
        words = []
        for name in names:
            given = blame(box, causes, name)
            words.append(given[0])
            having = [lot for lot in least if name in lot]
            if not lots:
                self.assertEqual(given[0], "clash")
                check_clash(self, box & limits(causes, names), given[1])
            elif all(name in lot for lot in lots):
                self.assertEqual(given[0], "surely")
                self.assertIn(given[1], least)
                check_clash(self, box & limits(causes, [other for other in names if other != name]), given[2])
            elif having:
                self.assertEqual(given[0], "perhaps")
                self.assertIn(given[1], having)
                self.assertIn(given[2], [lot for lot in least if name not in lot])
            else:
                self.assertEqual(given[0], "needless")
                self.assertIn(given[1], least)
                self.assertEqual(len(given), 2)
        return words

    def test_against_all_lots(self):
        draw = draws(650)
        words = []
        for world in small_worlds():
            for faults in (0, 1, 2, 3, 4):
                blaming = Blaming(drawn_causes(draw, world, faults))
                for _ in range(5):
                    words += self.check(blaming, drawn_box(draw, world, draw.randint(1, 4), 0))
        for word in ("clash", "surely", "perhaps", "needless"):
            self.assertGreater(words.count(word), 20)

    def test_each_other_ways(self):
        """The least lots are the least sets that meet every least conflict, and the other way round."""
        draw = draws(651)
        for world in small_worlds()[:4]:
            causes = drawn_causes(draw, world, 4)
            names = [fault[0] for fault in causes.faults]
            every = [set(lot) for size in range(5) for lot in itertools.combinations(names, size)]
            for _ in range(6):
                box = drawn_box(draw, world, 3, 0)
                lots, clashing = least_faults(box, causes), conflicts(box, causes)
                for one, other in ((lots, clashing), (clashing, lots)):
                    meeting = [lot for lot in every if all(lot & set(part) for part in other)]
                    self.assertEqual(one, [sorted(lot) for lot in meeting if not any(smaller < lot for smaller in meeting)])

    def test_the_example(self):
        world, causes = example()
        box = Box(world).narrowed(("all", 0, 1), least=4, greatest=4)
        word, lot, balance = blame(box, causes, "f")
        self.assertEqual((word, lot), ("surely", ["f"]))
        check_clash(self, box & limits(causes, []), balance)
        self.assertEqual((least_faults(box, causes), conflicts(box, causes)), ([["f"]], [["f"]]))

    def test_edges(self):
        world, causes = example()
        self.assertEqual((least_faults(Box(world), causes), conflicts(Box(world), causes)), ([[]], []))
        self.assertEqual(blame(Box(world), causes, "f"), ("needless", []))
        none = Box(world).narrowed(("err", 0, 3), least=1)
        self.assertEqual((least_faults(none, causes), conflicts(none, causes)), ([], [[]]))
        self.assertEqual(blame(none, causes, "f")[0], "clash")
        bare = Causes(world, [0, 1])
        self.assertEqual((least_faults(Box(world), bare), conflicts(Box(world), bare)), ([[]], []))
        self.assertEqual((least_faults(none, bare), conflicts(none, bare)), ([], [[]]))

    def test_the_order(self):
        world = World([("a", 0, 9), ("b", 0, 9)], ticks=2, folds=[2])
        faults = [("z", "a", 0, 1, 1), ("y", "a", 0, 1, 1), ("x", "a", 0, 1, 3), ("w", "b", 0, 1, 1), ("v", "a", 0, 1, 2)]
        causes = Causes(world, [0, 0], faults=faults)
        box = Box(world).narrowed(("a", 0, 0), least=3)
        self.assertEqual(least_faults(box, causes), [["x"], ["z", "v"], ["y", "v"]])
        self.assertEqual(conflicts(box, causes), [["x", "v"], ["z", "y", "x"]])
        self.assertEqual(blame(box, causes, "w")[0], "needless")
        word, lot, other = blame(box, causes, "v")
        self.assertEqual((word, other), ("perhaps", ["x"]))

    def test_large(self):
        draw = draws(652)
        world = large_world()
        leans = [tuple(draw.sample("abcdef", 2)) + (draw.randint(0, 4),) for _ in range(20)]
        faults = [(f"f{k}", draw.choice("abcdef"), draw.randrange(8), draw.randint(1, 4), 400 * 3 ** k) for k in range(8)]
        causes = Causes(world, [10] * 6, leans=leans, faults=faults)
        box = Box(world).narrowed(("all", 4, 0), least=300000).narrowed(("trio", 0, 6), least=60).narrowed(("b", 1, 3), greatest=70000)
        lots = least_faults(box, causes)
        clashing = conflicts(box, causes)
        self.assertTrue(lots and clashing)
        for lot in lots:
            self.assertTrue(all(set(lot) & set(part) for part in clashing))
        words = [blame(box, causes, f"f{k}")[0] for k in (0, 7)]
        self.assertNotIn("clash", words)

    def test_errors(self):
        world, causes = example()
        other = Box(World([("err", 0, 9), ("web", 0, 9)], ticks=4, folds=[4]))
        for call in (least_faults, conflicts, lambda *told: blame(*told, "x"), lambda *told: blame(*told, "f")):
            with self.assertRaises(OtherWorld):
                call(other, causes)
        for name in ("x", "", "err"):
            with self.assertRaises(BadName) as caught:
                blame(Box(world), causes, name)
            self.assertEqual(caught.exception.name, name)

    def test_returned_lists_may_change(self):
        world, causes = example()
        box = Box(world).narrowed(("all", 0, 1), least=4, greatest=4)
        for call in (least_faults, conflicts):
            call(box, causes)[0].clear()
            call(box, causes).clear()
            self.assertEqual(call(box, causes), [["f"]])
        blame(box, causes, "f")[1].clear()
        self.assertEqual(blame(box, causes, "f")[1], ["f"])


if __name__ == "__main__":
    unittest.main()
