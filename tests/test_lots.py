"""Lots: the fewest and the cheapest sums that tell promised ones (points 76, 77 and 79)."""

import itertools
import unittest

from forgetting import Telling, drawn_sums, free_row, independent
from helpers import draws, large_world, own_sums, small_worlds
from surelyseen.errors import BadList, NoSuchSum, TooManyLots
from surelyseen.lots import cheapest_lot, is_least_lot, least_lots, rank
from surelyseen.telling import told_sums
from surelyseen.world import World


def tiny_worlds():
    """Worlds with so few sums that all small lots can be listed."""
    return [
        World([("a", 0, 2)], ticks=4, folds=[2, 4]),
        World([("a", 0, 1), ("b", 0, 1)], ticks=2, folds=[2]),
        World([("a", 0, 1), ("b", 3, 3)], ticks=2, folds=[2]),
        World([("a", 1, 2), ("b", 3, 3), ("c", 0, 2)], ticks=2, folds=[2], groups=[("g", ["b", "c"])]),
        World([("a", 0, 1), ("b", 0, 1), ("c", 0, 1)], ticks=2, folds=[2], groups=[("g", ["a", "b"])]),
        World([("a", 2, 2), ("b", 4, 4)], ticks=2, folds=[2]),
    ]


class LotsTest(unittest.TestCase):
    def test_against_all_lots(self):
        draw = draws(550)
        sizes = []
        for world in tiny_worlds():
            telling = Telling(world)
            places = {asked: k for k, asked in enumerate(telling.sums)}
            for _ in range(14):
                promised = drawn_sums(draw, world, draw.choice([0, 1, 1, 2, 2, 3]))
                lots = telling.lots(promised, 3)
                found = least_lots(world, promised)
                self.assertEqual(found, lots)
                self.assertEqual(sorted(found, key=lambda lot: [places[asked] for asked in lot]), found)
                self.assertEqual(rank(world, promised), len(lots[0]))
                told = telling.told(promised)
                self.assertTrue(all(asked in told for lot in lots for asked in lot))
                sizes.append((len(lots[0]), len(lots)))
                self.check_is_least(draw, telling, promised, lots)
                self.check_cheapest(draw, telling, promised, lots)
        for size in (0, 1, 2, 3):
            self.assertGreater(len([1 for one, _ in sizes if one == size]), 5)
        self.assertGreater(len([1 for _, many in sizes if many > 3]), 10)

    def check_is_least(self, draw, telling, promised, lots):
        many = len(lots[0])
        for lot in lots[:5]:
            self.assertIs(is_least_lot(telling.world, promised, draw.sample(lot, many)), True)
            if lot:
                self.assertIs(is_least_lot(telling.world, promised, lot + lot[:1]), False)
                self.assertIs(is_least_lot(telling.world, promised, lot[1:]), False)
                self.assertIs(is_least_lot(telling.world, promised, lot[1:] + lot[-1:]), len(lot) == 1)
        for _ in range(10):
            lot = draw.sample(telling.sums, min(draw.choice([many, many, many + 1]), len(telling.sums)))
            self.assertIs(is_least_lot(telling.world, promised, lot), sorted(lot) in [sorted(one) for one in lots])

    def check_cheapest(self, draw, telling, promised, lots):
        for most in (0, 1, 3, 1000000):
            costs = [draw.randint(0, most) for _ in telling.sums]
            cost_of = dict(zip(telling.sums, costs))
            lot = cheapest_lot(telling.world, promised, costs)
            self.assertEqual(lot, own_cheapest(telling, promised, costs))
            self.assertIn(lot, lots)
            totals = [sum(cost_of[asked] for asked in one) for one in lots]
            self.assertEqual(sum(cost_of[asked] for asked in lot), min(totals))

    def test_more_worlds_against_the_rank_of_rows(self):
        draw = draws(551)
        for world in small_worlds():
            for _ in range(8):
                promised = drawn_sums(draw, world, draw.randint(0, 12))
                many = independent([free_row(world, asked) for asked in promised])
                self.assertEqual(rank(world, promised), many)
                try:
                    lots = least_lots(world, promised)
                except TooManyLots as error:
                    self.assertEqual(error.many, 100)
                    continue
                self.assertLessEqual(len(lots), 100)
                for lot in lots:
                    self.assertEqual(len(lot), many)
                    self.assertEqual(independent([free_row(world, asked) for asked in lot + promised]), many)
                    self.assertEqual(independent([free_row(world, asked) for asked in lot]), many)

    def test_just_100_lots_and_101(self):
        """The cells of a window of n ticks and its total: n + 1 lots; lots of separate windows combine in every way."""
        world = World([("a", 0, 1), ("b", 0, 1)], ticks=16, folds=[4, 16], groups=[])
        quarter = [("a", 0, tick) for tick in range(4)]
        self.assertEqual(len(least_lots(world, quarter)), 5)
        half = quarter + [("a", 0, tick) for tick in range(4, 8)]
        self.assertEqual(len(least_lots(world, half)), 25)
        four = [(one, 1, k) for one in ("a", "b", "all") for k in range(2)]
        # three sums at each of two windows, any two of which tell the third: 3 * 3 lots, and with a quarter's cells 45
        self.assertEqual(len(least_lots(world, four)), 9)
        large = World([("a", 0, 1)], ticks=8, folds=[4, 8])
        cells = [("a", 0, tick) for tick in range(4)]
        self.assertEqual(len(least_lots(large, cells)), len(Telling(large).lots(cells, 4)))

    def test_counts_of_lots(self):
        """Of n + 1 sums that tell each other any n are a lot: 10 * 10 are 100, and one more is 101 or more."""
        world = World([(name, 0, 5) for name in "abc"], ticks=9, folds=[9])
        row = [("a", 0, tick) for tick in range(9)]
        self.assertEqual(len(least_lots(world, row)), 10)
        both = row + [("b", 0, tick) for tick in range(9)]
        lots = least_lots(world, both)
        self.assertEqual(len(lots), 100)
        totals = [[asked for asked in own_sums(world) if asked[0] in "ab" and asked not in lot] for lot in lots]
        self.assertEqual(sorted(tuple(left) for left in totals), sorted(itertools.product(
            [("a", 0, tick) for tick in range(9)] + [("a", 1, 0)], [("b", 0, tick) for tick in range(9)] + [("b", 1, 0)],
        )))
        with self.assertRaises(TooManyLots) as caught:
            least_lots(world, both + [("c", 0, 0), ("all", 0, 0)])
        self.assertEqual(caught.exception.many, 100)
        long = World([(name, 0, 5) for name in "abc"], ticks=10, folds=[10])
        with self.assertRaises(TooManyLots):
            least_lots(long, [("a", 0, tick) for tick in range(10)] + [("b", 0, tick) for tick in range(10)])

    def test_101_lots(self):
        """The cells of a stream and those of a tick share one: 17 * 6 ways to leave one out of each, less 1."""
        world = World([(name, 0, 5) for name in "abcde"], ticks=16, folds=[16])
        row = [("a", 0, tick) for tick in range(16)]
        column = [(name, 0, 0) for name in "bcde"]
        with self.assertRaises(TooManyLots) as caught:
            least_lots(world, row + column)
        self.assertEqual(caught.exception.many, 100)
        self.assertEqual(rank(world, column + row), 20)
        self.assertIs(is_least_lot(world, row + column, row[1:] + column + [("all", 0, 0)]), True)
        # without a cell of the tick the others tell nothing more, and only the cells of the stream can be exchanged
        self.assertEqual(len(least_lots(world, row + column[1:])), 17)

    def test_many_lots(self):
        draw = draws(552)
        counts = []
        for _ in range(90):
            world = draw.choice([
                World([("a", 0, 1), ("b", 0, 1), ("c", 0, 1)], ticks=2, folds=[2]), World([("a", 0, 1), ("b", 0, 1)], ticks=3, folds=[3]),
                World([("a", 0, 1), ("b", 0, 1)], ticks=4, folds=[2, 4]), World([("a", 0, 1), ("b", 0, 1), ("c", 0, 1)], ticks=2, folds=[2], groups=[("g", ["a", "c"])]),
            ])
            promised = drawn_sums(draw, world, draw.randint(2, 6))
            many = own_count(world, told_sums(world, promised))
            counts.append(many)
            if many > 100:
                with self.assertRaises(TooManyLots) as caught:
                    least_lots(world, promised)
                self.assertEqual(caught.exception.many, 100)
            else:
                self.assertEqual(len(least_lots(world, promised)), many)
        self.assertGreater(len([1 for many in counts if 20 < many <= 100]), 3)
        self.assertGreater(len([1 for many in counts if many > 100]), 3)

    def test_large(self):
        draw = draws(553)
        for world in (large_world(), large_world(0, 1)):
            for many in (0, 1, 10, 30, 60):
                promised = drawn_sums(draw, world, many)
                costs = [draw.randint(0, 1000000) for _ in own_sums(world)]
                lot = cheapest_lot(world, promised, costs)
                self.assertIs(is_least_lot(world, promised, draw.sample(lot, len(lot))), True)
                self.assertEqual(len(lot), rank(world, promised))
                cost_of = dict(zip(own_sums(world), costs))
                try:
                    for other in least_lots(world, promised):
                        self.assertGreaterEqual(sum(cost_of[asked] for asked in other), sum(cost_of[asked] for asked in lot))
                        self.assertIs(is_least_lot(world, promised, other), True)
                except TooManyLots:
                    self.assertGreater(many, 5)
        self.assertEqual(least_lots(large_world(7, 7), drawn_sums(draw, large_world(7, 7), 60)), [[]])
        twice = [("all", 0, tick) for tick in range(15)] * 4
        with self.assertRaises(TooManyLots):
            least_lots(large_world(), twice)
        self.assertEqual(rank(large_world(), twice), 15)
        self.assertEqual(least_lots(large_world(), [("a", 0, 3)] * 60), [[("a", 0, 3)]])

    def test_errors(self):
        world = World([("a", 0, 1), ("b", 0, 1)], ticks=2, folds=[2])
        good, one, other = ("a", 0, 0), ("a", 2, 0), ("x", 0, 0)
        for call, wrong in (
            (lambda: rank(world, [good, one, other]), one), (lambda: least_lots(world, [other, one]), other), (lambda: is_least_lot(world, [one], [other]), one),
            (lambda: is_least_lot(world, [good], [good, good, other]), other), (lambda: is_least_lot(world, [], [good, good, good, other, one]), other),
            (lambda: cheapest_lot(world, [good, one], []), one), (lambda: cheapest_lot(world, [other], [1] * 9), other),
        ):
            with self.assertRaises(NoSuchSum) as caught:
                call()
            self.assertEqual(caught.exception.asked, wrong)
        for many in (0, 8, 10):
            with self.assertRaises(BadList):
                cheapest_lot(world, [good], [1] * many)
        self.assertEqual(cheapest_lot(world, [good], [1] * 9), [good])
        self.assertEqual(cheapest_lot(world, [], [1] * 9), [])

    def test_lists_may_change_afterwards(self):
        world = World([("a", 0, 1)], ticks=2, folds=[2])
        promised, costs = [("a", 0, 0), ("a", 0, 0)], [3, 1, 1, 0, 0, 1]
        lots = least_lots(world, promised)
        kept = [list(lot) for lot in lots]
        lots[0].clear()
        lots.pop()
        cheapest_lot(world, promised, costs).clear()
        self.assertEqual((promised, costs), ([("a", 0, 0), ("a", 0, 0)], [3, 1, 1, 0, 0, 1]))
        self.assertEqual(least_lots(world, promised), kept)
        self.assertEqual(cheapest_lot(world, promised, costs), [("all", 0, 0)])


def own_cheapest(telling, promised, costs):
    """Goes through the told sums as the document says."""
    lot = []
    for _, place in sorted((cost, place) for place, cost in enumerate(costs)):
        asked = telling.sums[place]
        if telling.tells(promised, asked) and not telling.tells(lot, asked):
            lot.append(asked)
    return sorted(lot, key=telling.sums.index)


def own_count(world, told):
    """How many sets of told sums tell all of them with none to spare."""
    rows = [free_row(world, asked) for asked in told]
    loose = [k for k, row in enumerate(rows) if any(row)]
    many = independent(rows)
    return sum(1 for lot in itertools.combinations(loose, many) if independent([rows[k] for k in lot]) == many)


if __name__ == "__main__":
    unittest.main()
