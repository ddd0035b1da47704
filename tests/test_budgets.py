"""Budgets over meters (points 82 to 86)."""

import itertools
import unittest

from helpers import draws
from metering import all_readings, check_low_ring, check_way, drawn_meters, large_meter, own_facts, own_overspent
from surelyseen.budgets import budget_states, least_reads, overspent, settles
from surelyseen.errors import BadMeter, NoHeights
from surelyseen.meters import Meter, readings_fit


def limit_facts(meter, width, most, shift=0):
    return [(t - width + shift, t + shift, None, most) for t in range(width, meter.ticks + 1)]


def glued_facts(meter, width, most, points, t):
    copy = meter.ticks + 1
    facts = own_facts(meter)
    found = facts + [(a + copy, b + copy, least, greatest) for a, b, least, greatest in facts] + [(0, copy, 0, 0)]
    found += [(p, copy + p, 0, 0) for p in points] + [(t - width, t, most + 1, None)]
    return found + limit_facts(meter, width, most, copy)


def own_settles(fitting, width, most, points):
    """Whether readings that are alike at the points agree on whether the budget is overspent somewhere."""
    words = {}
    for readings in fitting:
        word = bool(own_overspent(readings, width, most))
        if words.setdefault(tuple(readings[p] for p in points), word) != word:
            return False
    return True


def asked_budgets(draw, meter):
    """Some budgets, and those at which the answers change among them."""
    return [(draw.randint(1, meter.ticks), draw.randint(-1, 3 * meter.ticks)) for _ in range(4)] + [(1, meter.high - 1), (meter.ticks, meter.ticks)]


class StatesTest(unittest.TestCase):
    def test_against_all_readings(self):
        draw, meters = drawn_meters(610, 100)
        words = []
        for meter in meters:
            fitting = all_readings(meter)
            for width, most in asked_budgets(draw, meter):
                if not fitting:
                    with self.assertRaises(NoHeights) as caught:
                        budget_states(meter, width, most)
                    check_low_ring(self, own_facts(meter), caught.exception.ring)
                    continue
                states = budget_states(meter, width, most)
                self.assertEqual(len(states), meter.ticks - width + 1)
                for t, state in zip(range(width, meter.ticks + 1), states):
                    marks = {t in own_overspent(readings, width, most) for readings in fitting}
                    self.assertEqual(state, "open" if len(marks) == 2 else "yes" if True in marks else "no")
                words += states
        for word in ("yes", "no", "open"):
            self.assertGreater(words.count(word), 80)


class OverspentTest(unittest.TestCase):
    def check(self, meter, width, most):
        given = overspent(meter, width, most)
        if given[0] == "yes":
            check_low_ring(self, own_facts(meter) + limit_facts(meter, width, most), given[1])
        elif given[0] == "no":
            self.assertEqual(len(given[1]), meter.ticks - width + 1)
            for t, way in zip(range(width, meter.ticks + 1), given[1]):
                check_way(self, own_facts(meter), t - width, t, way, most)
        else:
            word, over, under = given
            self.assertEqual(word, "open")
            self.assertTrue(readings_fit(meter, over) and readings_fit(meter, under))
            self.assertTrue(own_overspent(over, width, most))
            self.assertFalse(own_overspent(under, width, most))
        return given[0]

    def test_against_all_readings(self):
        draw, meters = drawn_meters(611, 120)
        words = []
        for meter in meters:
            fitting = all_readings(meter)
            for width, most in asked_budgets(draw, meter):
                if not fitting:
                    with self.assertRaises(NoHeights) as caught:
                        overspent(meter, width, most)
                    check_low_ring(self, own_facts(meter), caught.exception.ring)
                    continue
                marks = {bool(own_overspent(readings, width, most)) for readings in fitting}
                words.append(self.check(meter, width, most))
                self.assertEqual(words[-1], "open" if len(marks) == 2 else "yes" if True in marks else "no")
        for word in ("yes", "no", "open"):
            self.assertGreater(words.count(word), 60)

    def test_the_example(self):
        meter = Meter(3, 0, 4, [("read", 3, 5)])
        self.assertEqual(self.check(meter, 2, 2), "yes")
        self.assertEqual(budget_states(meter, 2, 2), ["open", "open"])
        self.assertEqual(self.check(meter, 2, 3), "open")
        self.assertEqual(self.check(meter, 2, 5), "no")

    def test_edges(self):
        meter = Meter(2, 0, 4, [])
        for most, word in ((-999999999999, "yes"), (-1, "yes"), (0, "open"), (3, "open"), (4, "no"), (999999999999, "no")):
            self.assertEqual(self.check(meter, 1, most), word)
            self.assertEqual(budget_states(meter, 1, most), [word] * 2)
        for most, word in ((-1, "yes"), (7, "open"), (8, "no")):
            self.assertEqual(self.check(meter, 2, most), word)
        one = Meter(1, 3, 3, [])
        self.assertEqual([self.check(one, 1, most) for most in (2, 3)], ["yes", "no"])

    def test_large(self):
        draw = draws(612)
        words = []
        for _ in range(4):
            meter, hidden = large_meter(draw)
            for width in (1, 5, 12, 24):
                grown = sorted(hidden[t] - hidden[t - width] for t in range(width, 25))
                for most in (grown[-1], grown[0] - 1, grown[len(grown) // 2], 999999999999):
                    words.append(self.check(meter, width, most))
                    states = budget_states(meter, width, most)
                    if words[-1] == "no":
                        self.assertEqual(set(states), {"no"})
                    if "yes" in states:
                        self.assertEqual(words[-1], "yes")
        for word in ("yes", "no", "open"):
            self.assertGreater(words.count(word), 3)


class SettlesTest(unittest.TestCase):
    def check(self, meter, width, most, points):
        given = settles(meter, width, most, points)
        if given[0] == "settled":
            self.assertEqual(len(given[1]), meter.ticks - width + 1)
            for t, ring in zip(range(width, meter.ticks + 1), given[1]):
                check_low_ring(self, glued_facts(meter, width, most, points, t), ring)
        else:
            word, over, under = given
            self.assertEqual(word, "parts")
            self.assertTrue(readings_fit(meter, over) and readings_fit(meter, under))
            self.assertEqual([over[p] for p in points], [under[p] for p in points])
            self.assertTrue(own_overspent(over, width, most))
            self.assertFalse(own_overspent(under, width, most))
        return given[0]

    def test_against_all_readings(self):
        draw, meters = drawn_meters(613, 70)
        words = []
        for meter in meters:
            fitting = all_readings(meter)
            for width, most in asked_budgets(draw, meter):
                points = draw.choices(range(1, meter.ticks + 1), k=draw.randint(0, 3))
                if not fitting:
                    with self.assertRaises(NoHeights) as caught:
                        settles(meter, width, most, points)
                    check_low_ring(self, own_facts(meter), caught.exception.ring)
                    continue
                words.append(self.check(meter, width, most, points))
                self.assertEqual(words[-1], "settled" if own_settles(fitting, width, most, points) else "parts")
        self.assertGreater(words.count("settled"), 50)
        self.assertGreater(words.count("parts"), 50)

    def test_repeated_points(self):
        meter = Meter(3, 0, 4, [])
        self.assertEqual(self.check(meter, 2, 5, [3, 1, 3, 1, 2, 2]), "settled")
        self.assertEqual(self.check(meter, 2, 5, [3, 3, 3]), "parts")
        self.assertEqual(self.check(meter, 2, 8, []), "settled")
        self.assertEqual(self.check(meter, 3, 8, [3]), "settled")
        self.assertEqual(self.check(meter, 3, 8, [2]), "parts")

    def test_large(self):
        draw = draws(614)
        meter, hidden = large_meter(draw)
        for width in (1, 7, 24):
            most = hidden[width + 3 if width < 20 else 24] - hidden[3 if width < 20 else 0]
            self.check(meter, width, most, [])
            self.assertEqual(self.check(meter, width, most, list(range(24, 0, -1)) * 2), "settled")
            self.check(meter, width, most, draw.choices(range(1, 25), k=5))


class LeastReadsTest(unittest.TestCase):
    def test_against_all_readings(self):
        draw, meters = drawn_meters(615, 50)
        sizes = []
        for meter in meters:
            fitting = all_readings(meter)
            for width, most in asked_budgets(draw, meter):
                if not fitting:
                    with self.assertRaises(NoHeights):
                        least_reads(meter, width, most)
                    continue
                for size in range(meter.ticks + 1):
                    lists = [
                        list(points) for points in itertools.combinations(range(1, meter.ticks + 1), size)
                        if own_settles(fitting, width, most, points)
                    ]
                    if lists:
                        break
                self.assertEqual(least_reads(meter, width, most), lists)
                sizes.append(size)
        for size in (0, 1, 2, 3):
            self.assertGreater(sizes.count(size), 5)

    def test_eight_and_nine_ticks(self):
        self.assertEqual(least_reads(Meter(8, 0, 9, []), 8, 20), [[8]])
        self.assertEqual(least_reads(Meter(8, 0, 9, []), 8, 72), [[]])
        self.assertEqual(least_reads(Meter(8, 0, 2, []), 1, 1), [[1, 2, 3, 4, 5, 6, 7, 8]])
        wrong = Meter(9, 0, 9, [("read", 1, 10)])
        for meter in (Meter(9, 0, 9, []), wrong, Meter(24, 0, 9, [])):
            with self.assertRaises(BadMeter):
                least_reads(meter, 1, 5)
        self.assertEqual(budget_states(Meter(9, 0, 9, []), 9, 81), ["no"])

    def test_large(self):
        draw = draws(616)
        for _ in range(2):
            meter, hidden = large_meter(draw, 8, 100)
            for width in (1, 3, 8):
                lists = least_reads(meter, width, hidden[width + 1 if width < 8 else 8] - hidden[1 if width < 8 else 0])
                for points in lists:
                    self.assertEqual(settles(meter, width, hidden[width + 1 if width < 8 else 8] - hidden[1 if width < 8 else 0], points)[0], "settled")
        wide = Meter(8, 0, 1000000, [("grew", a, b, -999999999999, 999999999999) for a in range(8) for b in range(a + 1, 9)] * 3)
        self.assertEqual(least_reads(wide, 1, 500000), [[1, 2, 3, 4, 5, 6, 7, 8]])


class ErrorsTest(unittest.TestCase):
    def test_order(self):
        fine, wrong = Meter(3, 0, 4, []), Meter(3, 0, 4, [("read", 1, 9)])
        for meter in (fine, wrong):
            for width in (0, -1, 4, 25):
                for call in (budget_states, overspent, least_reads, lambda *told: settles(*told, [])):
                    with self.assertRaises(BadMeter):
                        call(meter, width, 2)
            for points in ([0], [4], [-1], [1, 2, 0], [3, 4]):
                with self.assertRaises(BadMeter):
                    settles(meter, 1, 2, points)
        for call in (budget_states, overspent, least_reads, lambda *told: settles(*told, [1])):
            with self.assertRaises(NoHeights) as caught:
                call(wrong, 1, 2)
            check_low_ring(self, own_facts(wrong), caught.exception.ring)

    def test_returned_lists_may_change(self):
        meter, points = Meter(3, 0, 4, [("read", 3, 5)]), [1, 2]
        budget_states(meter, 2, 2).clear()
        overspent(meter, 2, 2)[1].clear()
        overspent(meter, 2, 5)[1][0].clear()
        overspent(meter, 2, 3)[1].clear()
        settles(meter, 2, 3, points)[1][0].clear()
        settles(meter, 2, 3, [])[2].clear()
        for one in least_reads(meter, 2, 3):
            one.clear()
        self.assertEqual(points, [1, 2])
        self.assertEqual(budget_states(meter, 2, 2), ["open", "open"])
        checks = OverspentTest()
        self.assertEqual([checks.check(meter, 2, most) for most in (2, 3, 5)], ["yes", "open", "no"])
        self.assertEqual([SettlesTest().check(meter, 2, 3, told) for told in (points, [])], ["settled", "parts"])
        self.assertTrue(all(least_reads(meter, 2, 3)))


if __name__ == "__main__":
    unittest.main()
