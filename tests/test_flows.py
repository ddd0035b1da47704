"""What is sure of one sum (points 28 to 30 and 33)."""

import unittest

from helpers import Listing, check_clash, check_unit, doc_world, drawn_box, draws, fitting_box, large_world, own_bound
from helpers import own_fits, own_sums, own_value, own_weights, small_worlds
from surelyseen.balances import is_clash
from surelyseen.boxes import Box, fits_box
from surelyseen.errors import NoRun, NoSuchSum, OutOfRange
from surelyseen.flows import fit, greatest, least, run_with
from surelyseen.world import World

NO_SUM = ("bad", 1, 0)


class FlowsTest(unittest.TestCase):
    def check_fit(self, box, fits):
        word, found = fit(box)
        self.assertEqual(word, "run" if fits else "clash")
        self.assertIsInstance(found, list)
        if fits:
            self.assertTrue(own_fits(box, found) and fits_box(box, found))
        else:
            check_clash(self, box, found)
            self.assertIs(is_clash(box, found), True)

    def check_end(self, box, asked, call, side, value):
        """What `least` (side 0) or `greatest` (side 1) returns, if this is the value."""
        answer = call(box, asked)
        self.assertEqual((len(answer), answer[0]), (3, value))
        self.assertTrue(own_fits(box, answer[1]))
        self.assertEqual(own_value(box.world, answer[1], asked), value)
        check_unit(self, answer[2])
        self.assertEqual(own_weights(box.world, answer[2]), own_weights(box.world, [(asked, 1)]))
        self.assertEqual(own_bound(box, answer[2], side), value)

    def check_no_run(self, box, call):
        with self.assertRaises(NoRun) as caught:
            call()
        check_clash(self, box, caught.exception.balance)

    def check_box(self, listing, box, asked):
        runs = listing.fitting(box)
        self.check_fit(box, bool(runs))
        if not runs:
            for call in (least, greatest):
                self.check_no_run(box, lambda: call(box, asked))
            self.check_no_run(box, lambda: run_with(box, asked, -5))
            return
        taken = sorted({values[asked] for _, values in runs})
        self.check_end(box, asked, least, 0, taken[0])
        self.check_end(box, asked, greatest, 1, taken[-1])
        self.assertEqual(taken, list(range(taken[0], taken[-1] + 1)))
        for value in taken:
            run = run_with(box, asked, value)
            self.assertTrue(own_fits(box, run))
            self.assertEqual(own_value(box.world, run, asked), value)
        for value in (taken[0] - 1, taken[-1] + 1, -1000, 1000):
            with self.assertRaises(OutOfRange) as caught:
                run_with(box, asked, value)
            self.assertEqual((caught.exception.least, caught.exception.greatest), (taken[0], taken[-1]))

    def test_against_all_runs(self):
        draw = draws(30)
        for world in small_worlds():
            listing = Listing(world)
            for many in (0, 1, 2, 3, 4, 6, 8, 12):
                for slack in (0, 1):
                    box = drawn_box(draw, world, many, slack)
                    kept = list(box)
                    self.check_box(listing, box, draw.choice(listing.sums))
                    self.assertEqual(list(box), kept)

    def test_every_sum_of_a_box(self):
        draw = draws(31)
        for world in small_worlds():
            listing = Listing(world)
            box, _ = fitting_box(draw, world, 0.4, 1)
            for asked in listing.sums:
                self.check_box(listing, box, asked)

    def test_two_sums_that_clash(self):
        world = World([("a", 0, 9), ("b", 0, 9)], ticks=2, folds=[2])
        box = Box(world).narrowed(("all", 1, 0), greatest=10).narrowed(("a", 1, 0), least=6).narrowed(("b", 0, 1), least=5)
        self.check_fit(box, False)
        self.check_fit(box.narrowed(("b", 0, 1), greatest=4), False)
        self.check_fit(Box(world).narrowed(("all", 1, 0), greatest=11).narrowed(("a", 1, 0), least=6).narrowed(("b", 0, 1), least=5), True)

    def test_empty_intervals(self):
        world = doc_world()
        for asked in own_sums(world):
            box = Box(world).narrowed(asked, least=2, greatest=1)
            self.check_fit(box, False)
            self.check_no_run(box, lambda: least(box, asked))
            self.check_no_run(box, lambda: greatest(box, ("ok", 0, 0)))
            self.check_no_run(box, lambda: run_with(box, ("ok", 0, 0), 1))
        self.check_fit(Box(world).narrowed(("all", 2, 0), least=61), False)
        self.check_fit(Box(world).narrowed(("all", 2, 0), greatest=-1), False)

    def test_many_empty_intervals(self):
        world = doc_world()
        box = Box(world)
        for asked in own_sums(world):
            box = box.narrowed(asked, least=1, greatest=0)
        self.check_fit(box, False)

    def test_fixed_counts(self):
        world = World([("a", 4, 4), ("b", 1000000, 1000000)], ticks=2, folds=[2])
        self.assertEqual(fit(Box(world)), ("run", [[4, 4], [1000000, 1000000]]))
        self.check_end(Box(world), ("all", 1, 0), least, 0, 2000008)
        self.check_end(Box(world), ("all", 1, 0), greatest, 1, 2000008)
        self.assertEqual(run_with(Box(world), ("b", 0, 1), 1000000), [[4, 4], [1000000, 1000000]])

    def test_errors_in_their_order(self):
        world = doc_world()
        clash = Box(world).narrowed(("ok", 0, 0), least=2, greatest=1)
        for box in (Box(world), clash):
            for call in (lambda: least(box, NO_SUM), lambda: greatest(box, NO_SUM), lambda: run_with(box, NO_SUM, -1)):
                with self.assertRaises(NoSuchSum) as caught:
                    call()
                self.assertEqual(caught.exception.asked, NO_SUM)
        self.check_no_run(clash, lambda: run_with(clash, ("ok", 0, 0), -1))
        for value in (-1, 10):
            with self.assertRaises(OutOfRange) as caught:
                run_with(Box(world), ("ok", 0, 0), value)
            self.assertEqual((caught.exception.least, caught.exception.greatest), (0, 9))

    def test_large_worlds(self):
        draw = draws(32)
        for low, high in ((0, 1000000), (0, 3), (1000, 1001)):
            world = large_world(low, high)
            for share in (0.05, 0.3, 1):
                for slack in (0, 2, 100000):
                    box, _ = fitting_box(draw, world, share, slack)
                    self.check_fit(box, True)
                    asked = draw.choice(own_sums(world))
                    start, run, _ = least(box, asked)
                    end, _, _ = greatest(box, asked)
                    self.check_end(box, asked, least, 0, start)
                    self.check_end(box, asked, greatest, 1, end)
                    self.assertTrue(start <= own_value(world, run, asked) <= end)
                    for value in (start, (start + end) // 2, end):
                        run = run_with(box, asked, value)
                        self.assertTrue(own_fits(box, run) and own_value(world, run, asked) == value)
                    for value in (start - 1, end + 1):
                        with self.assertRaises(OutOfRange):
                            run_with(box, asked, value)
                    self.check_fit(box.narrowed(asked, greatest=start - 1), False)
                    self.check_fit(box.narrowed(asked, least=end + 1), False)
                    self.check_fit(box.narrowed(asked, least=end), True)

    def test_large_clashes(self):
        draw = draws(33)
        world = large_world(0, 1000000)
        words = set()
        for many in (2, 5, 20, 100, 285):
            for slack in (0, 1000, 500000):
                box = drawn_box(draw, world, many, slack)
                word, _ = fit(box)
                words.add(word)
                self.check_fit(box, word == "run")
        self.assertEqual(words, {"run", "clash"})

    def test_returned_lists_may_change(self):
        box = Box(doc_world()).narrowed(("all", 2, 0), least=5, greatest=7)
        expected = fit(box)
        found = fit(box)
        found[1][0][0] = 99
        found[1].pop()
        self.assertEqual(fit(box), expected)
        for call in (least, greatest):
            expected = call(box, ("bad", 2, 0))
            value, run, balance = call(box, ("bad", 2, 0))
            run[0].clear()
            balance.clear()
            self.assertEqual(call(box, ("bad", 2, 0)), expected)
        clash = box.narrowed(("all", 0, 0), least=9, greatest=8)
        expected = fit(clash)
        fit(clash)[1].clear()
        with self.assertRaises(NoRun) as caught:
            least(clash, ("ok", 0, 0))
        caught.exception.balance.clear()
        self.assertEqual(fit(clash), expected)


if __name__ == "__main__":
    unittest.main()
