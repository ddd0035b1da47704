"""Boxes (points 25 and 26) and balances (points 27 and 28)."""

import unittest
from unittest import mock

from helpers import all_runs, doc_world, drawn_box, drawn_run, draws, large_world, own_bound, own_fits, own_sums
from helpers import own_value, own_weights, small_worlds
from surelyseen.balances import ceiling_of, cell_weights, floor_of, is_clash
from surelyseen.boxes import Box, fits_box
from surelyseen.errors import NoSuchSum, OtherWorld
from surelyseen.world import World, sum_range

NO_SUMS = [("bad", 1, 0), ("ok", 0, 4), ("ok", 3, 0), ("web", 0, 0), ("all", 0, -1)]


def drawn_balance(draw, world, many):
    return [(draw.choice(own_sums(world)), draw.choice([-3, -2, -1, 1, 2, 5])) for _ in range(many)]


class BoxTest(unittest.TestCase):
    def setUp(self):
        self.world = doc_world()
        self.box = Box(self.world)

    def test_new_box(self):
        for world in small_worlds() + [self.world, large_world()]:
            box = Box(world)
            self.assertEqual(box.world, world)
            expected = []
            for asked in own_sums(world):
                low, high = sum_range(world, asked)
                expected.append((asked, low, high))
                self.assertEqual((box.low_of(asked), box.high_of(asked)), (low, high))
            self.assertEqual(list(box), expected)
            self.assertEqual([row for row in box], expected)

    def test_narrowed(self):
        asked = ("all", 1, 0)
        for least, greatest, low, high in (
            (None, None, 0, 30), (5, None, 5, 30), (None, 7, 0, 7), (5, 7, 5, 7), (-3, 99, 0, 30), (0, 30, 0, 30),
            (8, 3, 8, 3), (31, None, 31, 30), (None, -1, 0, -1), (0, 0, 0, 0), (30, 30, 30, 30), (99, -99, 99, -99),
        ):
            box = self.box.narrowed(asked, least=least, greatest=greatest)
            self.assertIsInstance(box, Box)
            self.assertEqual((box.low_of(asked), box.high_of(asked)), (low, high))
            for other, start, end in Box(self.world):
                if other != asked:
                    self.assertEqual((box.low_of(other), box.high_of(other)), (start, end))
        self.assertEqual(list(self.box), list(Box(self.world)))

    def test_narrowed_again(self):
        box = self.box.narrowed(("ok", 0, 1), least=3).narrowed(("ok", 0, 1), least=2, greatest=6)
        self.assertEqual((box.low_of(("ok", 0, 1)), box.high_of(("ok", 0, 1))), (3, 6))
        box = box.narrowed(("ok", 0, 1), least=7, greatest=8)
        self.assertEqual((box.low_of(("ok", 0, 1)), box.high_of(("ok", 0, 1))), (7, 6))

    def test_narrowed_by_keyword_only(self):
        with self.assertRaises(TypeError):
            self.box.narrowed(("ok", 0, 1), 3)

    def test_no_such_sum(self):
        for asked in NO_SUMS:
            calls = [self.box.low_of, self.box.high_of, self.box.narrowed, lambda s: self.box.narrowed(s, least=1, greatest=0)]
            for call in calls:
                with self.assertRaises(NoSuchSum) as caught:
                    call(asked)
                self.assertEqual(caught.exception.asked, asked)

    def test_both(self):
        draw = draws(20)
        for world in small_worlds() + [self.world]:
            one, other = drawn_box(draw, world, 5, 2), drawn_box(draw, world, 5, 2)
            kept = (list(one), list(other))
            both = one & other
            self.assertIsInstance(both, Box)
            self.assertEqual(both.world, world)
            expected = [
                (asked, max(low, more), min(high, less)) for (asked, low, high), (_, more, less) in zip(one, other)
            ]
            self.assertEqual(list(both), expected)
            self.assertEqual((list(one), list(other)), kept)
            self.assertEqual(both, other & one)
            self.assertEqual(one & Box(world), one)
        one = self.box.narrowed(("ok", 0, 0), least=5) & self.box.narrowed(("ok", 0, 0), greatest=4)
        self.assertEqual((one.low_of(("ok", 0, 0)), one.high_of(("ok", 0, 0))), (5, 4))

    def test_other_world(self):
        others = [World([("ok", 0, 9)], ticks=4, folds=[2, 4]), World([("ok", 0, 9), ("err", 0, 3), ("slow", 0, 3)], ticks=4, folds=[2, 4])]
        for other in others:
            with self.assertRaises(OtherWorld):
                self.box & Box(other)
        self.assertEqual(self.box & Box(doc_world()), self.box)

    def test_equal(self):
        self.assertTrue(self.box == Box(doc_world()))
        self.assertFalse(self.box != Box(doc_world()))
        narrow = self.box.narrowed(("ok", 0, 1), least=3)
        self.assertTrue(narrow == self.box.narrowed(("ok", 0, 1), least=1).narrowed(("ok", 0, 1), least=3))
        for other in (self.box, self.box.narrowed(("ok", 0, 1), least=4), self.box.narrowed(("ok", 0, 2), least=3),
                      narrow.narrowed(("all", 2, 0), greatest=59)):
            self.assertFalse(narrow == other)
            self.assertTrue(narrow != other)
        twin = World([("ok", 0, 9), ("err", 0, 3), ("slow", 0, 3)], ticks=4, folds=[2, 4], groups=[("bad", ["slow", "err"])])
        self.assertFalse(self.box == Box(twin))
        self.assertTrue(self.box != Box(twin))
        for other in (None, 0, [], list(self.box), self.world, mock.ANY):
            self.assertFalse(self.box == other)
            self.assertTrue(self.box != other)

    def test_fits_box(self):
        draw = draws(21)
        for world in small_worlds()[:3]:
            runs = list(all_runs(world))
            for many in (0, 1, 2, 4):
                box = drawn_box(draw, world, many, 1)
                for run in runs:
                    self.assertIs(fits_box(box, run), own_fits(box, run))

    def test_no_run_fits_no_box(self):
        box = Box(World([("a", 1, 3), ("b", 0, 2)], ticks=2, folds=[2]))
        self.assertIs(fits_box(box, [[1, 3], [0, 2]]), True)
        for table in ([], [[1, 3]], [[1, 3], [0]], [[1], [0, 0]], [[1, 3], [0, 0], [0, 0]], [[1, 3, 1], [0, 0, 0]],
                      [[0, 3], [0, 0]], [[4, 1], [0, 0]], [[1, 3], [-1, 2]], [[1, 3], [0, 3]], [[], []]):
            self.assertIs(fits_box(box, table), False, table)

    def test_edges_of_an_interval(self):
        box = self.box.narrowed(("all", 2, 0), least=3, greatest=5)
        for count, expected in ((2, False), (3, True), (5, True), (6, False)):
            self.assertIs(fits_box(box, [[count, 0, 0, 0], [0, 0, 0, 0], [0, 0, 0, 0]]), expected)

    def test_changed_lists_have_no_effect(self):
        streams = [("a", 0, 1)]
        world = World(streams, ticks=2, folds=[2])
        box = Box(world)
        rows = list(box)
        streams[0] = ("a", 0, 9)
        list(box).clear()
        self.assertEqual(list(box), rows)


class BalanceTest(unittest.TestCase):
    def setUp(self):
        self.world = doc_world()
        self.box = Box(self.world).narrowed(("ok", 0, 1), least=2, greatest=5).narrowed(("all", 1, 0), least=10, greatest=4)

    def test_written_out(self):
        balance = [(("bad", 0, 1), 2), (("all", 1, 0), -1), (("ok", 0, 1), 3)]
        self.assertEqual(cell_weights(self.world, balance), [[-1, 2, 0, 0], [-1, 1, 0, 0], [-1, 1, 0, 0]])
        self.assertEqual(floor_of(self.box, balance), 0 - 4 + 6)
        self.assertEqual(ceiling_of(self.box, balance), 12 - 10 + 15)

    def test_empty_balance(self):
        self.assertEqual(cell_weights(self.world, []), [[0] * 4, [0] * 4, [0] * 4])
        self.assertEqual((floor_of(self.box, []), ceiling_of(self.box, [])), (0, 0))
        self.assertIs(is_clash(self.box, []), False)

    def test_repeated_pairs_count_each_time(self):
        balance = [(("ok", 0, 1), 1)] * 3
        self.assertEqual(cell_weights(self.world, balance)[0], [0, 3, 0, 0])
        self.assertEqual((floor_of(self.box, balance), ceiling_of(self.box, balance)), (6, 15))

    def test_drawn_balances(self):
        draw = draws(22)
        for world in small_worlds() + [self.world]:
            for _ in range(40):
                box = drawn_box(draw, world, 4, 2)
                balance = drawn_balance(draw, world, draw.randint(0, 8))
                kept = list(balance)
                self.assertEqual(cell_weights(world, balance), own_weights(world, balance))
                self.assertEqual(floor_of(box, balance), own_bound(box, balance, 0))
                self.assertEqual(ceiling_of(box, balance), own_bound(box, balance, 1))
                clash = not any(any(row) for row in own_weights(world, balance)) and own_bound(box, balance, 0) > 0
                self.assertIs(is_clash(box, balance), clash)
                self.assertEqual(balance, kept)
                table = drawn_run(draw, world)
                value = sum(coefficient * own_value(world, table, asked) for asked, coefficient in balance)
                weights = cell_weights(world, balance)
                self.assertEqual(value, sum(
                    weight * count for row, counts in zip(weights, table) for weight, count in zip(row, counts)
                ))
                if own_fits(box, table):
                    self.assertTrue(floor_of(box, balance) <= value <= ceiling_of(box, balance))

    def test_clashes(self):
        world = World([("a", 0, 3), ("b", 0, 3)], ticks=2, folds=[2])
        parts = [(("all", 0, 0), 1), (("a", 0, 0), -1), (("b", 0, 0), -1)]
        box = Box(world).narrowed(("a", 0, 0), greatest=2)
        for least, expected in ((5, False), (6, True), (7, True)):
            self.assertIs(is_clash(box.narrowed(("all", 0, 0), least=least), parts), expected)
        box = box.narrowed(("all", 0, 0), least=6)
        self.assertIs(is_clash(box, parts[::-1]), True)
        self.assertIs(is_clash(box, [(asked, 7 * coefficient) for asked, coefficient in parts]), True)
        self.assertIs(is_clash(box, parts + parts), True)
        self.assertIs(is_clash(box, [(asked, -coefficient) for asked, coefficient in parts]), False)
        self.assertIs(is_clash(box, parts[:2]), False)
        self.assertIs(is_clash(box, [(("all", 0, 0), 1)]), False)
        self.assertIs(is_clash(box, [(("all", 0, 0), 1), (("all", 0, 0), -1)]), False)
        empty = box.narrowed(("b", 1, 0), least=4, greatest=3)
        self.assertIs(is_clash(empty, [(("b", 1, 0), 1), (("b", 1, 0), -1)]), True)
        self.assertIs(is_clash(empty, [(("b", 1, 0), -1), (("b", 1, 0), 1)]), True)

    def test_first_sum_that_does_not_exist(self):
        for asked in NO_SUMS:
            wrong = [(("ok", 0, 0), 1), (asked, 1), (("ok", 9, 9), -1)]
            for call in (lambda b: cell_weights(self.world, b), lambda b: floor_of(self.box, b),
                         lambda b: ceiling_of(self.box, b), lambda b: is_clash(self.box, b)):
                with self.assertRaises(NoSuchSum) as caught:
                    call(wrong)
                self.assertEqual(caught.exception.asked, asked)

    def test_large(self):
        draw = draws(23)
        world = large_world()
        balance = [(draw.choice(own_sums(world)), draw.choice([-1000000, 1000000, 7])) for _ in range(400)]
        box = drawn_box(draw, world, 50, 1000)
        self.assertEqual(cell_weights(world, balance), own_weights(world, balance))
        self.assertEqual(floor_of(box, balance), own_bound(box, balance, 0))
        self.assertEqual(ceiling_of(box, balance), own_bound(box, balance, 1))
        both = balance + [(asked, -coefficient) for asked, coefficient in balance]
        self.assertIs(is_clash(box, both), own_bound(box, both, 0) > 0)

    def test_returned_tables_may_change(self):
        balance = [(("ok", 0, 1), 1)]
        found = cell_weights(self.world, balance)
        found[0][0] = 9
        found.pop()
        self.assertEqual(cell_weights(self.world, balance), [[0, 1, 0, 0], [0] * 4, [0] * 4])
        zeros = cell_weights(self.world, [])
        zeros[0][0] = 5
        self.assertEqual(zeros[1], [0] * 4)


if __name__ == "__main__":
    unittest.main()
