"""Peaks and troughs (points 31 and 33)."""

import unittest

from helpers import Listing, check_clash, doc_world, drawn_box, draws, fitting_box, large_world, own_fits, own_sums
from helpers import own_value, small_worlds
from surelyseen.boxes import Box
from surelyseen.errors import BadList, NoRun, NoSuchSum, OutOfRange
from surelyseen.flows import fit
from surelyseen.peaks import peak, run_with_peak, run_with_trough, trough
from surelyseen.world import World

KINDS = [(peak, run_with_peak, max), (trough, run_with_trough, min)]


class PeaksTest(unittest.TestCase):
    def check_answer(self, box, asked, answer, expected, pick):
        self.assertIsInstance(answer, tuple)
        self.assertEqual(answer[:2], expected)
        self.assertEqual(len(answer), 4)
        for value, run in zip(answer[:2], answer[2:]):
            self.assertTrue(own_fits(box, run))
            self.assertEqual(pick(own_value(box.world, run, one) for one in asked), value)

    def check_run_with(self, box, asked, kind, low, high, values):
        _, run_with, pick = kind
        for value in values:
            run = run_with(box, asked, value)
            self.assertTrue(own_fits(box, run))
            self.assertEqual(pick(own_value(box.world, run, one) for one in asked), value)
        for value in (low - 1, high + 1, low - 1000, high + 1000):
            with self.assertRaises(OutOfRange) as caught:
                run_with(box, asked, value)
            self.assertEqual((caught.exception.least, caught.exception.greatest), (low, high))

    def check_no_run(self, box, asked):
        for call, run_with, _ in KINDS:
            for given in ((call, box, asked), (run_with, box, asked, -1), (run_with, box, asked, 1)):
                with self.assertRaises(NoRun) as caught:
                    given[0](*given[1:])
                check_clash(self, box, caught.exception.balance)

    def check_box(self, listing, box, asked):
        runs = listing.fitting(box)
        if not runs:
            self.check_no_run(box, asked)
            return
        for kind in KINDS:
            taken = sorted({kind[2](values[one] for one in asked) for _, values in runs})
            self.check_answer(box, asked, kind[0](box, asked), (taken[0], taken[-1]), kind[2])
            self.assertEqual(taken, list(range(taken[0], taken[-1] + 1)))
            self.check_run_with(box, asked, kind, taken[0], taken[-1], taken)

    def test_against_all_runs(self):
        draw = draws(40)
        for world in small_worlds():
            listing = Listing(world)
            for many in (0, 1, 2, 3, 5, 8):
                for length in (1, 2, 3, 6):
                    box = drawn_box(draw, world, many, 1)
                    asked = draw.choices(listing.sums, k=length)
                    kept = (list(box), list(asked))
                    self.check_box(listing, box, asked)
                    self.assertEqual((list(box), asked), kept)

    def test_around_one_run(self):
        draw = draws(41)
        for world in small_worlds():
            listing = Listing(world)
            for share in (0.1, 0.3, 0.6):
                box, _ = fitting_box(draw, world, share, 1)
                self.check_box(listing, box, [asked for asked in listing.sums if asked[1] == 0])
                self.check_box(listing, box, draw.sample(listing.sums, 3))

    def test_written_out(self):
        world = World([("a", 0, 5)], ticks=4, folds=[2, 4])
        cells = [("a", 0, tick) for tick in range(4)]
        box = Box(world).narrowed(("a", 2, 0), least=9, greatest=9)
        self.assertEqual(peak(box, cells)[:2], (3, 5))
        self.assertEqual(trough(box, cells)[:2], (0, 2))
        self.assertEqual(peak(box, cells * 10)[:2], (3, 5))
        self.assertEqual(trough(box, cells * 10)[:2], (0, 2))
        self.assertEqual(peak(box, [("a", 2, 0)])[:2], (9, 9))
        self.assertEqual(peak(box, [("a", 2, 0), ("a", 0, 0)])[:2], (9, 9))
        self.assertEqual(trough(box, [("a", 2, 0), ("a", 0, 0)])[:2], (0, 5))

    def test_peaks_that_no_single_sum_tells(self):
        world = World([("a", 0, 1)], ticks=2, folds=[2])
        box = Box(world).narrowed(("a", 1, 0), least=1, greatest=1)
        asked = [("a", 0, 0), ("a", 0, 1)]
        self.assertEqual(peak(box, asked)[:2], (1, 1))
        self.assertEqual(trough(box, asked)[:2], (0, 0))

    def test_errors_in_their_order(self):
        world = doc_world()
        clash = Box(world).narrowed(("ok", 0, 0), least=2, greatest=1)
        wrong = [("ok", 0, 0), ("bad", 1, 0), ("web", 0, 0)]
        for call, run_with, _ in KINDS:
            for box in (Box(world), clash):
                for given in ((call, box, []), (run_with, box, [], -1)):
                    with self.assertRaises(BadList):
                        given[0](*given[1:])
                for given in ((call, box, wrong), (run_with, box, wrong, -1)):
                    with self.assertRaises(NoSuchSum) as caught:
                        given[0](*given[1:])
                    self.assertEqual(caught.exception.asked, ("bad", 1, 0))
        self.check_no_run(clash, [("ok", 0, 0)])
        self.check_no_run(clash, [("err", 0, 0), ("err", 0, 0)])

    def test_large_worlds(self):
        draw = draws(42)
        for low, high in ((0, 1000000), (0, 3)):
            world = large_world(low, high)
            ticks = [("all", 0, tick) for tick in range(16)]
            for share, slack in ((0, 0), (0.2, 1000), (1, 2)):
                box, hidden = fitting_box(draw, world, share, slack)
                for asked in (ticks, draw.choices(own_sums(world), k=40)):
                    for kind in KINDS:
                        self.check_large(box, asked, kind)

    def check_large(self, box, asked, kind):
        """The ends are reached, and nothing lies beyond them."""
        call, _, pick = kind
        low, high = call(box, asked)[:2]
        self.check_answer(box, asked, call(box, asked), (low, high), pick)
        self.check_run_with(box, asked, kind, low, high, [low, (low + high) // 2, high])
        capped = box
        for one in asked:
            capped = capped.narrowed(one, greatest=low - 1) if pick is max else capped.narrowed(one, least=high + 1)
            beyond = box.narrowed(one, least=high + 1) if pick is max else box.narrowed(one, greatest=low - 1)
            self.assertEqual(fit(beyond)[0], "clash")
        self.assertEqual(fit(capped)[0], "clash")

    def test_returned_lists_may_change(self):
        box = Box(doc_world()).narrowed(("all", 2, 0), least=5, greatest=7)
        asked = [("ok", 0, 0), ("bad", 0, 1)]
        for call, run_with, _ in KINDS:
            expected = call(box, asked)
            found = call(box, asked)
            found[2][0].clear()
            found[3].clear()
            self.assertEqual(call(box, asked), expected)
            run = run_with(box, asked, 1)
            run_with(box, asked, 1).clear()
            self.assertEqual(run_with(box, asked, 1), run)


if __name__ == "__main__":
    unittest.main()
