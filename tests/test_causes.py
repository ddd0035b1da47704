"""Causes: faults, what they reach, and lots that fit (points 92 to 94 and 97)."""

import unittest

from blaming import Blaming, drawn_causes, own_limit, own_reach
from helpers import check_clash, drawn_box, draws, large_world, own_fits, own_sums, small_worlds
from surelyseen.boxes import Box
from surelyseen.causes import Causes, fit_lot, limits, reach
from surelyseen.errors import BadCauses, BadName, OtherWorld
from surelyseen.world import World


def pair_world():
    return World([("err", 0, 9), ("web", 1, 8)], ticks=4, folds=[2, 4])


class CausesTest(unittest.TestCase):
    def test_attributes(self):
        world = pair_world()
        causes = Causes(world, [0, 1], leans=[("web", "err", 1)], faults=[("f", "err", 0, 1, 5)])
        self.assertEqual(causes.world, world)
        self.assertEqual((causes.normal, causes.leans, causes.faults), ((0, 1), (("web", "err", 1),), (("f", "err", 0, 1, 5),)))
        self.assertEqual((Causes(world, [9, 8]).leans, Causes(world, [0, 1]).faults), ((), ()))
        wide = Causes(world, [0, 1], leans=[("web", "err", 16)] * 25, faults=[(f"f{k}", "web", 3, 16, 1000000) for k in range(9)])
        self.assertEqual((len(wide.leans), len(wide.faults)), (25, 9))

    def test_wrong_causes(self):
        lean, fault = ("web", "err", 1), ("f", "err", 0, 1, 5)
        for normal, leans, faults in (
            ([], [], []), ([0], [], []), ([0, 1, 2], [], []), ([-1, 1], [], []), ([10, 1], [], []), ([0, 0], [], []), ([0, 9], [], []),
            ([0, 1], [("web", "web", 1)], []), ([0, 1], [("web", "x", 1)], []), ([0, 1], [("x", "err", 1)], []), ([0, 1], [("all", "err", 1)], []),
            ([0, 1], [lean, ("web", "err", -1)], []), ([0, 1], [("web", "err", 17)], []), ([0, 1], [], [("f", "x", 0, 1, 5)]), ([0, 1], [], [("f", "all", 0, 1, 5)]),
            ([0, 1], [], [("f", "err", -1, 1, 5)]), ([0, 1], [], [("f", "err", 4, 1, 5)]), ([0, 1], [], [("f", "err", 0, 0, 5)]), ([0, 1], [], [("f", "err", 0, 17, 5)]),
            ([0, 1], [], [("f", "err", 0, 1, 0)]), ([0, 1], [], [("f", "err", 0, 1, 1000001)]), ([0, 1], [lean], [fault, ("g", "err", 0, 1, -1)]),
        ):
            with self.assertRaises(BadCauses):
                Causes(pair_world(), normal, leans=leans, faults=faults)

    def test_wrong_names(self):
        fault = ("f", "err", 0, 1, 5)
        for name, faults in (
            ("", [("",) + fault[1:]]), ("F", [("F",) + fault[1:]]), ("row", [("row",) + fault[1:]]), ("f", [fault, fault]), ("f", [fault, ("f", "x", 9, 0, 0)]),
            ("all", [fault, ("all", "x", 9, 0, 0)]), ("abcdefghijklm", [("abcdefghijklm",) + fault[1:]]), ("f", [fault, ("g",) + fault[1:], fault, ("h", "x", 0, 0, 0)]),
        ):
            with self.assertRaises(BadName) as caught:
                Causes(pair_world(), [0, 1], faults=faults)
            self.assertEqual(caught.exception.name, name)
        self.assertEqual(len(Causes(pair_world(), [0, 1], faults=[("err",) + fault[1:], ("web",) + fault[1:]]).faults), 2)

    def test_the_order_of_errors(self):
        fault = ("f", "err", 0, 1, 5)
        for normal, leans, faults, error in (
            ([0, 0], [], [("", "x", 9, 9, 9)], BadCauses), ([0, 1], [("x", "y", 99)], [("", "x", 9, 9, 9)], BadCauses), ([0, 1], [], [fault[:1] + ("x",) + fault[2:], fault], BadCauses),
            ([0, 1], [], [fault, ("f", "x", 0, 1, 5)], BadName), ([0, 1], [], [("g", "x", 0, 1, 5), ("", "x", 0, 1, 5)], BadCauses), ([0, 1], [], [("", "x", 0, 1, 5)], BadName),
        ):
            with self.assertRaises(error):
                Causes(pair_world(), normal, leans=leans, faults=faults)

    def test_changed_lists_have_no_effect(self):
        normal, leans, faults = [0, 1], [("web", "err", 1)], [("f", "err", 0, 1, 5)]
        causes = Causes(pair_world(), normal, leans=leans, faults=faults)
        normal[0] = 5
        leans.clear()
        faults.append(("g", "err", 0, 1, 5))
        self.assertEqual((causes.normal, len(causes.leans), len(causes.faults)), ((0, 1), 1, 1))
        reach(causes, "f").clear()
        self.assertEqual(reach(causes, "f"), [("err", 0), ("web", 1)])
        lot = ["f"]
        limits(causes, lot)
        fit_lot(Box(pair_world()), causes, lot)[1].clear()
        self.assertEqual((lot, fit_lot(Box(pair_world()), causes, lot)[0]), (["f"], "run"))


class ReachTest(unittest.TestCase):
    def test_ordinary(self):
        world = World([("a", 0, 9), ("b", 0, 9), ("c", 0, 9), ("d", 0, 9)], ticks=4, folds=[2, 4])
        leans = [("b", "a", 2), ("a", "b", 0), ("c", "b", 0), ("c", "a", 1), ("a", "c", 3)]
        causes = Causes(world, [0] * 4, leans=leans, faults=[("f", "a", 0, 2, 1), ("g", "b", 3, 16, 1), ("h", "c", 0, 1, 1), ("k", "d", 2, 2, 1), ("m", "a", 3, 3, 1)])
        self.assertEqual(reach(causes, "f"), [("a", 0), ("a", 1), ("b", 2), ("b", 3), ("c", 1), ("c", 2)])
        self.assertEqual(reach(causes, "g"), [("a", 3), ("b", 3), ("c", 3)])
        self.assertEqual(reach(causes, "h"), [("a", 3), ("c", 0)])
        self.assertEqual(reach(causes, "k"), [("d", 2), ("d", 3)])
        self.assertEqual(reach(causes, "m"), [("a", 3)])
        for name in ("z", "a", "", "all"):
            with self.assertRaises(BadName) as caught:
                reach(causes, name)
            self.assertEqual(caught.exception.name, name)

    def test_against_all_chains(self):
        draw = draws(640)
        for _ in range(60):
            world = World([(name, 0, 9) for name in "abcdef"[:draw.randint(2, 6)]], ticks=8, folds=[8])
            names = [stream[0] for stream in world.streams]
            leans = [tuple(draw.sample(names, 2)) + (draw.choice([0, 0, 1, 2, 5, 16]),) for _ in range(draw.randint(0, 9))]
            faults = [(f"f{k}", draw.choice(names), draw.randrange(8), draw.randint(1, 16), draw.randint(1, 9)) for k in range(3)]
            causes = Causes(world, [0] * len(names), leans=leans, faults=faults)
            for fault in faults:
                self.assertEqual(reach(causes, fault[0]), own_reach(causes, fault[0]))

    def test_large(self):
        leans = [("abcdef"[(k + 1) % 6], "abcdef"[k % 6], k % 3) for k in range(20)]
        causes = Causes(large_world(), [1000000] * 6, leans=leans, faults=[(f"f{k}", "abcdef"[k % 6], 2 * k, 16, 1000000) for k in range(8)])
        for k in range(8):
            self.assertEqual(reach(causes, f"f{k}"), own_reach(causes, f"f{k}"))
        box = limits(causes, [f"f{k}" for k in range(8)])
        self.assertEqual(box, Box(large_world()))


class LimitsTest(unittest.TestCase):
    def test_against_each_cell(self):
        draw = draws(641)
        for world in small_worlds() + [pair_world()]:
            for _ in range(4):
                causes = drawn_causes(draw, world, 3)
                for lot in ([], ["a"], ["c", "a"], ["b", "c", "a"]):
                    box = limits(causes, lot)
                    self.assertEqual(box.world, world)
                    for name, low, high in world.streams:
                        for tick in range(world.ticks):
                            asked = (name, 0, tick)
                            self.assertEqual((box.low_of(asked), box.high_of(asked)), (low, min(high, own_limit(causes, lot, name, tick))))
                    whole = Box(world)
                    for asked in own_sums(world):
                        if asked[1] > 0 or asked[0] in ["all"] + [group[0] for group in world.groups]:
                            self.assertEqual((box.low_of(asked), box.high_of(asked)), (whole.low_of(asked), whole.high_of(asked)))

    def test_fit_lot_against_all_runs(self):
        draw = draws(642)
        words = []
        for world in small_worlds():
            for _ in range(3):
                blaming = Blaming(drawn_causes(draw, world, 3))
                for _ in range(3):
                    box = drawn_box(draw, world, draw.randint(1, 4), 1)
                    lots = blaming.fitting_lots(box)
                    for lot in blaming.lots:
                        word, found = fit_lot(box, blaming.causes, draw.sample(lot, len(lot)))
                        self.assertEqual(word, "run" if lot in lots else "clash")
                        if word == "run":
                            self.assertTrue(own_fits(box, found) and blaming.within(found, lot))
                        else:
                            check_clash(self, box & limits(blaming.causes, lot), found)
                        words.append(word)
        self.assertGreater(words.count("run"), 100)
        self.assertGreater(words.count("clash"), 100)

    def test_errors(self):
        causes = Causes(pair_world(), [0, 1], faults=[("f", "err", 0, 1, 5), ("g", "web", 0, 1, 5)])
        other = Box(World([("err", 0, 9), ("web", 1, 9)], ticks=4, folds=[2, 4]))
        for lot, name in ((["x"], "x"), (["f", "g", "f"], "f"), (["f", "f", "x"], "f"), (["g", "x", "x", "g"], "x"), (["f", "", "f"], ""), (["err"], "err")):
            for call in (lambda: limits(causes, lot), lambda: fit_lot(Box(pair_world()), causes, lot)):
                with self.assertRaises(BadName) as caught:
                    call()
                self.assertEqual(caught.exception.name, name)
            with self.assertRaises(OtherWorld):
                fit_lot(other, causes, lot)
        self.assertEqual(limits(causes, ["g", "f"]), limits(causes, ["f", "g"]))


if __name__ == "__main__":
    unittest.main()
