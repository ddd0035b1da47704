"""Since when (point 56)."""

import unittest

from asking import own_holds, spans
from helpers import Listing, check_clash, doc_world, drawn_box, draws, fitting_box, large_world, own_fits, small_worlds
from surelyseen.boxes import Box
from surelyseen.errors import BadForm, NoRun, NoSuchSum, TooManyCases
from surelyseen.firsts import firsts
from surelyseen.world import World


def line_world(high=3):
    return World([("a", 0, high)], ticks=16, folds=[2, 4, 8, 16])


def outcome(world, run, row):
    """The window at which the row is completed first in a run, or None."""
    for at in range(row[4], row[5] + 1):
        if own_holds(world, run, ("first",) + row[1:] + (at,)):
            return at
    return None


class FirstsTest(unittest.TestCase):
    def check(self, box, row, expected):
        """What `firsts` returns, if these are the windows (and None)."""
        kept = list(box)
        found = firsts(box, *row[1:])
        self.assertEqual(list(box), kept)
        self.assertIsInstance(found, list)
        self.assertEqual([at for at, _ in found], expected, row)
        for pair in found:
            self.assertIsInstance(pair, tuple)
            self.assertTrue(own_fits(box, pair[1]))
            self.assertEqual(outcome(box.world, pair[1], row), pair[0])

    def test_against_all_runs(self):
        draw = draws(130)
        clashes = 0
        for world in small_worlds() + [World([("a", 0, 1)], ticks=8, folds=[8])]:
            listing = Listing(world)
            for many in (0, 0, 1, 2, 3, 5, 8):
                for _ in range(6):
                    box = drawn_box(draw, world, many, 1)
                    row = self.drawn_row(draw, world)
                    seen = {outcome(world, run, row) for run, _ in listing.fitting(box)}
                    if seen:
                        self.check(box, row, sorted(at for at in seen if at is not None) + [None] * (None in seen))
                    else:
                        clashes += 1
                        self.check_no_run(box, row)
        self.assertGreater(clashes, 5)

    def drawn_row(self, draw, world):
        (who, level), windows = draw.choice([entry for entry in spans(world) if entry[1] > 1])
        start = draw.choice([0, 0, draw.randrange(windows)])
        stop = draw.randint(start, windows - 1)
        return ("row", draw.choice([1, 1, 2, 2, 3, stop - start + 2]), who, level, start, stop, draw.choice([">=", "<="]), draw.randint(0, 2))

    def check_no_run(self, box, row):
        with self.assertRaises(NoRun) as caught:
            firsts(box, *row[1:])
        check_clash(self, box, caught.exception.balance)

    def test_edges(self):
        world = line_world()
        box = Box(world)
        self.check(box, ("row", 1, "a", 0, 3, 5, ">=", 1), [3, 4, 5, None])
        self.check(box, ("row", 2, "a", 0, 3, 5, ">=", 1), [4, 5, None])
        self.check(box, ("row", 3, "a", 0, 3, 5, ">=", 1), [5, None])
        self.check(box, ("row", 4, "a", 0, 3, 5, ">=", 1), [None])
        self.check(box, ("row", 999999999, "a", 0, 3, 5, ">=", 0), [None])
        self.check(box, ("row", 3, "a", 0, 3, 9, ">=", 0), [5])
        self.check(box, ("row", 1, "a", 0, 7, 7, "<=", 3), [7])
        self.check(box, ("row", 1, "a", 4, 0, 0, ">=", 48), [0, None])
        self.check(box.narrowed(("a", 4, 0), least=48), ("row", 2, "a", 2, 0, 3, ">=", 12), [1])
        self.check(box.narrowed(("a", 4, 0), greatest=1), ("row", 2, "a", 0, 0, 9, ">=", 1), [None])

    def test_first_windows_that_may_be_open_between_sure_ones(self):
        world = World([("a", 0, 3)], ticks=4, folds=[2, 4])
        box = Box(world).narrowed(("a", 1, 0), least=4, greatest=4)
        self.check(box, ("row", 2, "a", 0, 0, 3, ">=", 1), [1])
        box = Box(world).narrowed(("a", 0, 1), greatest=0).narrowed(("a", 0, 2), least=1)
        self.check(box, ("row", 1, "a", 0, 0, 3, ">=", 1), [0, 2])

    def test_errors_in_their_order(self):
        world = line_world()
        clash = Box(world).narrowed(("a", 0, 0), least=1, greatest=0)
        for box in (Box(world), clash):
            for given in (
                (0, "a", 0, 0, 15, ">=", 1), (1, "a", 0, 0, 15, "=", 1), (1, "web", 9, 3, 2, ">=", 1), (2, "a", 0, -1, 15, ">=", 1),
                (2, "a", 0, 0, 99, ">=", -1), (2, "a", 0, 0, 15, "<=", 1000000000),
            ):
                with self.assertRaises(BadForm) as caught:
                    firsts(box, *given)
                self.assertEqual(caught.exception.part, ("row",) + given)
            for given, asked in (
                ((2, "a", 0, 0, 16, ">=", 1), ("a", 0, 16)), ((2, "web", 0, 3, 4, ">=", 1), ("web", 0, 3)), ((2, "a", 5, 0, 999999999, ">=", 1), ("a", 5, 0)),
            ):
                with self.assertRaises(NoSuchSum) as caught:
                    firsts(box, *given)
                self.assertEqual(caught.exception.asked, asked)
            for given, many in (((2, "a", 0, 0, 14, ">=", 1), 65), ((3, "a", 0, 0, 15, ">=", 1), 177), ((3, "a", 0, 0, 13, ">=", 1), 91)):
                with self.assertRaises(TooManyCases) as caught:
                    firsts(box, *given)
                self.assertEqual(caught.exception.many, many)
        self.check_no_run(clash, ("row", 2, "a", 0, 0, 13, ">=", 1))
        self.check_no_run(clash, ("row", 99, "a", 0, 0, 13, ">=", 1))

    def test_as_many_cases_as_can_be(self):
        world = line_world()
        for length, stop in ((2, 13), (3, 12), (4, 12), (1, 15), (6, 13), (16, 15)):
            row = ("row", length, "a", 0, 0, stop, ">=", 2)
            self.check(Box(world), row, list(range(length - 1, stop + 1)) + [None])
        high = Box(world).narrowed(("a", 4, 0), least=47)
        self.check(high, ("row", 3, "a", 0, 0, 12, ">=", 3), [2, 3, 4, 5])

    def test_large_worlds(self):
        draw = draws(131)
        world = large_world()
        for share, slack in ((0, 0), (0.3, 1000), (1, 2), (0.7, 300000)):
            box, hidden = fitting_box(draw, world, share, slack)
            for row in (("row", 2, "all", 0, 0, 13, ">=", 3000000), ("row", 3, "a", 0, 0, 12, "<=", 500000), ("row", 2, "trio", 0, 4, 15, ">=", 1500000)):
                ats = [at for at, _ in firsts(box, *row[1:])]
                self.check(box, row, ats)
                self.assertIn(outcome(world, hidden, row), ats)

    def test_returned_lists_may_change(self):
        box = Box(doc_world())
        row = (2, "ok", 0, 0, 3, ">=", 1)
        expected = firsts(box, *row)
        found = firsts(box, *row)
        found[0][1].clear()
        self.assertEqual(found[1:], expected[1:])
        found.clear()
        self.assertEqual(firsts(box, *row), expected)


if __name__ == "__main__":
    unittest.main()
