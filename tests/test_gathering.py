"""The box of gathered items (points 39 and 41 to 43) and what agents send (point 45)."""

import itertools
import unittest

from happenings import Happenings, drawn_items, report_lists, reports_fit, small_setups, small_world, true_items
from helpers import all_runs, doc_world, drawn_run, draws, large_world
from surelyseen.boxes import Box, fits_box
from surelyseen.errors import BadItem, NoSuchSum
from surelyseen.flows import fit
from surelyseen.gathering import box_of, reported
from surelyseen.samples import sampled
from surelyseen.setups import Setup
from surelyseen.world import World


def interval(box, asked):
    return (box.low_of(asked), box.high_of(asked))


class BoxOfTest(unittest.TestCase):
    def setUp(self):
        self.world = World([(name, 0, 100) for name in ("ok", "err", "slow")], ticks=4, folds=[2, 4], groups=[("bad", ["err", "slow"])])
        self.setup = Setup(self.world, cap=9, samples=[("bad", 3, 1, ["err"]), ("all", 3, 0, ["slow", "err"])])

    def check_cell(self, items, expected, setup=None):
        """The interval of ok at tick 1, and that nothing else is narrowed."""
        items = [(word, "ok", 1, *rest) for word, *rest in items]
        for order in (items, items[::-1], items + items):
            box = box_of(setup or self.setup, order)
            self.assertEqual(interval(box, ("ok", 0, 1)), expected)
            self.assertEqual([row for row in box if row[0] != ("ok", 0, 1)], [row for row in Box(self.world) if row[0] != ("ok", 0, 1)])

    def test_no_items(self):
        self.assertEqual(box_of(self.setup, []), Box(self.world))
        self.assertEqual(box_of(self.setup, []).world, self.world)

    def test_the_example(self):
        self.check_cell([("count", 0, 4), ("count", 2, 1)], (6, 100))
        self.check_cell([("count", 0, 4), ("count", 2, 1), ("close", 3)], (6, 14))

    def test_reports(self):
        self.check_cell([("close", 0)], (0, 0))
        self.check_cell([("close", 3)], (3, 27))
        self.check_cell([("close", 12)], (12, 100))
        self.check_cell([("close", 1000)], (1000, 100))
        self.check_cell([("count", 0, 9)], (9, 100))
        self.check_cell([("count", 5, 2)], (7, 100))
        self.check_cell([("count", 999, 9)], (1008, 100))
        self.check_cell([("count", 0, 9), ("close", 1)], (9, 9))
        self.check_cell([("count", 1, 9), ("close", 2)], (10, 18))
        self.check_cell([("count", 0, 1), ("count", 1, 2), ("count", 2, 3), ("close", 4)], (7, 15))

    def test_what_cannot_be(self):
        for items in (
            [("count", 0, 1), ("count", 0, 2)], [("close", 1), ("close", 2)], [("count", 1, 5), ("close", 1)], [("count", 0, 5), ("close", 0)],
            [("count", 3, 1), ("count", 0, 1), ("close", 3)], [("count", 0, 1), ("count", 0, 2), ("close", 1)],
            [("close", 1), ("close", 2), ("count", 0, 5)],
        ):
            self.check_cell(items, (1, 0))

    def test_cap_1_and_1000(self):
        for cap in (1, 1000):
            world = World([("ok", 0, 1000000), ("b", 0, 1)], ticks=2, folds=[2])
            setup = Setup(world, cap=cap)
            items = [("count", "ok", 0, 1, cap), ("close", "ok", 0, 1000)]
            self.assertEqual(interval(box_of(setup, items), ("ok", 0, 0)), (cap + 999, cap + 999 * cap))

    def test_totals(self):
        box = box_of(self.setup, [("total", ("all", 1, 0), 5, 90), ("total", ("all", 1, 0), 3, 50), ("total", ("bad", 2, 0), 0, 999999999)])
        self.assertEqual(box, Box(self.world).narrowed(("all", 1, 0), least=5, greatest=50))
        box = box_of(self.setup, [("total", ("ok", 0, 0), 8, 9), ("total", ("ok", 0, 0), 3, 4), ("close", "ok", 0, 1)])
        self.assertEqual(box, Box(self.world).narrowed(("ok", 0, 0), least=8, greatest=4))

    def check_rows(self, items, demands):
        box = Box(self.world)
        for asked, least, greatest in demands:
            box = box.narrowed(asked, least=least, greatest=greatest)
        for order in (items, items[::-1], items + items):
            self.assertEqual(box_of(self.setup, order), box)

    def test_rows(self):
        self.check_rows([("row", "bad", 1, 4, "slow")], [(("bad", 0, 1), 5, None), (("slow", 0, 1), 1, None)])
        self.check_rows(
            [("row", "bad", 1, 4, "slow"), ("row", "bad", 1, 0, "err"), ("row", "bad", 1, 2, "err")],
            [(("bad", 0, 1), 5, None), (("slow", 0, 1), 1, None), (("err", 0, 1), 2, None)],
        )
        self.check_rows([("rows", "bad", 1, ())], [(("bad", 0, 1), 0, 1), (("err", 0, 1), 0, 0)])
        self.check_rows([("rows", "bad", 1, (0, 1, 2, 4))], [(("bad", 0, 1), 5, 7), (("err", 0, 1), 2, 4)])
        self.check_rows(
            [("rows", "bad", 1, (0, 1, 2, 4)), ("row", "bad", 1, 4, "slow"), ("row", "bad", 1, 2, "err")],
            [(("bad", 0, 1), 5, 7), (("err", 0, 1), 2, 3), (("slow", 0, 1), 1, None)],
        )

    def test_rows_of_all(self):
        self.check_rows(
            [("rows", "all", 2, (0, 1, 3, 5)), ("row", "all", 2, 3, "ok")],
            [(("all", 0, 2), 6, 6), (("bad", 0, 2), 2, 3), (("ok", 0, 2), 1, None)],
        )
        self.check_rows([("rows", "all", 2, (0, 6))], [(("all", 0, 2), 7, 3), (("bad", 0, 2), 0, 2)])

    def test_rows_that_cannot_be(self):
        for items in (
            [("row", "bad", 1, 4, "slow"), ("row", "bad", 1, 4, "err")], [("row", "bad", 1, 0, "slow")],
            [("rows", "bad", 1, (1,)), ("rows", "bad", 1, ())], [("rows", "bad", 1, (1,)), ("row", "bad", 1, 4, "err")],
            [("rows", "bad", 1, (1, 4)), ("row", "bad", 1, 1, "err"), ("row", "bad", 1, 4, "err"), ("row", "bad", 1, 4, "slow")],
        ):
            self.check_rows(items, [(("bad", 0, 1), 1, 0)])
        bare = Setup(self.world, samples=[("bad", 3, 1, [])])
        box = box_of(bare, [("rows", "bad", 1, (1, 2)), ("row", "bad", 1, 1, "err")])
        self.assertEqual(box, Box(self.world).narrowed(("bad", 0, 1), least=1, greatest=0))

    def test_always_one_stream_a_group_or_all(self):
        world = World([(name, 0, 9) for name in "abcd"], ticks=2, folds=[2], groups=[("g", ["c", "a"]), ("h", ["a", "b", "c"])])
        items = [("rows", "h", 0, (0, 1, 2)), ("row", "h", 0, 1, "a")]
        for always, demand in (
            (["a"], (("a", 0, 0), 1, 3)), (["a", "c"], (("g", 0, 0), 1, 3)), (["c", "a"], (("g", 0, 0), 1, 3)),
            (["b", "a", "c"], (("h", 0, 0), 3, 3)),
        ):
            setup = Setup(world, samples=[("h", 2, 0, always)])
            box = Box(world).narrowed(("a", 0, 0), least=1).narrowed(("h", 0, 0), least=3, greatest=4)
            box = box.narrowed(demand[0], least=demand[1], greatest=demand[2])
            self.assertEqual(box_of(setup, items), box)
        setup = Setup(world, samples=[("h", 2, 0, ["b"])])
        self.assertEqual(box_of(setup, items), Box(world).narrowed(("h", 0, 0), least=1, greatest=0))

    def test_lone_stream(self):
        world = World([("a", 0, 9)], ticks=2, folds=[2])
        items = [("rows", "all", 0, (0, 1, 2))]
        for always, expected in ((["a"], (3, 3)), ([], (1, 0))):
            setup = Setup(world, samples=[("all", 2, 0, always)])
            box = box_of(setup, items)
            self.assertEqual(interval(box, ("all", 0, 0)), expected)
            self.assertEqual(interval(box, ("a", 0, 0)), (0, 9))

    def test_exactly_the_runs_that_fit(self):
        """Point 43, against all reports and rows that could have been."""
        draw = draws(80)
        seen = []
        for setup in small_setups():
            happenings = Happenings(setup)
            runs = list(all_runs(setup.world))
            for share, wrong, times in ((0.3, 0, 15), (0.7, 0, 20), (1, 0, 5), (0.5, 1, 20), (0.2, 2, 20), (0, 3, 20), (0, 5, 10)):
                for _ in range(times):
                    items = drawn_items(draw, setup, draw.choice(runs), share, wrong)
                    seen.append(self.check_exact(setup, happenings, runs, items))
        self.assertGreater(seen.count(0), 20)
        self.assertGreater(len([many for many in seen if many > 0]), 100)

    def check_exact(self, setup, happenings, runs, items):
        kept_items = list(items)
        box = box_of(setup, items)
        fitting = [run for run in runs if happenings.fits(items, run)]
        self.assertEqual([run for run in runs if fits_box(box, run)], fitting, items)
        self.assertEqual(items, kept_items)
        for order in (items[::-1], sorted(items, key=str), list(dict.fromkeys(items)), items * 2):
            self.assertEqual(box_of(setup, order), box)
        return len(fitting)

    def test_one_cell_exactly(self):
        """All lists of up to three items about one cell."""
        world = World([("a", 0, 4)], ticks=2, folds=[2])
        setup = Setup(world, cap=2)
        items = [("count", "a", 0, serial, events) for serial in range(3) for events in (1, 2)]
        items += [("close", "a", 0, reports) for reports in range(4)]
        for length in range(4):
            for some in itertools.combinations(items, length):
                box = box_of(setup, list(some))
                for count in range(5):
                    self.assertIs(fits_box(box, [[count, 0]]), reports_fit(setup, some, "a", 0, count), (some, count))

    def test_what_happened_fits(self):
        draw = draws(81)
        for setup in small_setups():
            for _ in range(20):
                run = drawn_run(draw, setup.world)
                self.assertIs(fits_box(box_of(setup, true_items(draw, setup, run)), run), True)

    def test_each_item_is_checked_in_order(self):
        bad = ("count", "ok", 0, 0, 10)
        no_sum = ("close", "ok", 4, 0)
        good = ("close", "ok", 0, 1)
        for items, error in (([good, bad, no_sum], BadItem), ([good, no_sum, bad], NoSuchSum), ([bad], BadItem), ([no_sum, good], NoSuchSum)):
            with self.assertRaises(error) as caught:
                box_of(self.setup, items)
            if error is BadItem:
                self.assertEqual(caught.exception.item, bad)
            else:
                self.assertEqual(caught.exception.asked, ("ok", 0, 4))

    def test_400_items(self):
        draw = draws(82)
        world = large_world(0, 1000)
        setup = Setup(world, cap=1000, samples=[("all", 40, 39, ["e", "f"]), ("trio", 3, 0, ["a"])])
        run = [[draw.randint(0, 60) for _ in range(16)] for _ in range(6)]
        items = []
        for tick in range(16):
            for k, name in enumerate("abcdef"):
                reports = [1] * run[k][tick]
                if k == 0:
                    reports = [run[k][tick]] if run[k][tick] else []
                items += draw.sample(reported(setup, name, tick, reports), 1)
            forms = [name for k, name in enumerate("abcdef") for _ in range(run[k][tick])]
            draw.shuffle(forms)
            items += draw.sample(sampled(setup, "all", tick, forms), 3)
            trio = [form for form in forms if form in "abc"]
            items += draw.sample(sampled(setup, "trio", tick, trio), min(3, len(trio)))
        items += [("total", ("all", 3, 0), 0, 999999999)] * (400 - len(items))
        draw.shuffle(items)
        box = box_of(setup, items)
        self.assertIs(fits_box(box, run), True)
        self.assertEqual(fit(box)[0], "run")
        self.assertEqual(box_of(setup, items[::-1]), box)

    def test_1000_reports_of_a_cell(self):
        world = World([("a", 0, 1000000)], ticks=2, folds=[2])
        setup = Setup(world, cap=1000)
        items = reported(setup, "a", 1, [1000] * 1000)
        self.assertEqual(interval(box_of(setup, items), ("a", 0, 1)), (1000000, 1000000))
        self.assertEqual(interval(box_of(setup, items[:500] + items[-1:]), ("a", 0, 1)), (500500, 1000000))
        self.assertEqual(interval(box_of(setup, items[998:1000]), ("a", 0, 1)), (2998, 1000000))

    def test_lists_may_change_afterwards(self):
        items = [("close", "ok", 0, 3)]
        box = box_of(self.setup, items)
        items.append(("close", "ok", 0, 4))
        self.assertEqual(interval(box, ("ok", 0, 0)), (3, 27))


class ReportedTest(unittest.TestCase):
    def test_reported(self):
        setup = Setup(small_world(), cap=5)
        self.assertEqual(reported(setup, "a", 1, []), [("close", "a", 1, 0)])
        self.assertEqual(
            reported(setup, "b", 0, [5, 1, 1]),
            [("count", "b", 0, 0, 5), ("count", "b", 0, 1, 1), ("count", "b", 0, 2, 1), ("close", "b", 0, 3)],
        )

    def test_all_short_lists(self):
        setup = Setup(small_world(), cap=2)
        for count in range(5):
            for reports in report_lists(count, 2):
                expected = [("count", "a", 0, serial, events) for serial, events in enumerate(reports)]
                self.assertEqual(reported(setup, "a", 0, reports), expected + [("close", "a", 0, len(reports))])

    def test_1000_reports_and_one_more(self):
        setup = Setup(small_world(), cap=1)
        items = reported(setup, "a", 0, [1] * 1000)
        self.assertEqual((len(items), items[-2], items[-1]), (1001, ("count", "a", 0, 999, 1), ("close", "a", 0, 1000)))
        with self.assertRaises(BadItem) as caught:
            reported(setup, "a", 0, [1] * 1001)
        self.assertEqual(caught.exception.item, ("count", "a", 0, 1000, 1))

    def test_errors(self):
        setup = Setup(doc_world(), cap=5)
        for stream, tick, events in (("web", 0, [9]), ("ok", 4, []), ("bad", -1, [1]), ("web", 0, [])):
            with self.assertRaises(NoSuchSum) as caught:
                reported(setup, stream, tick, events)
            self.assertEqual(caught.exception.asked, (stream, 0, tick))
        for stream, events, item in (
            ("ok", [1, 6, 0], ("count", "ok", 2, 1, 6)), ("ok", [0], ("count", "ok", 2, 0, 0)), ("bad", [1], ("count", "bad", 2, 0, 1)),
            ("all", [], ("close", "all", 2, 0)), ("ok", [5, 5, -1], ("count", "ok", 2, 2, -1)),
        ):
            with self.assertRaises(BadItem) as caught:
                reported(setup, stream, 2, events)
            self.assertEqual(caught.exception.item, item)

    def test_lists_may_change_afterwards(self):
        setup = Setup(doc_world())
        events = [1, 2]
        found = reported(setup, "ok", 0, events)
        events.clear()
        self.assertEqual(len(found), 3)
        found.clear()
        self.assertEqual(len(reported(setup, "ok", 0, [1, 2])), 3)


if __name__ == "__main__":
    unittest.main()
