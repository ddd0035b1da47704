"""Meters (points 80, 81 and 86)."""

import unittest

from helpers import Listing, drawn_box, draws, fitting_box, large_world, own_cells, own_sums, small_worlds
from metering import all_readings, check_low_ring, drawn_meters, large_meter, own_facts
from surelyseen.boxes import Box
from surelyseen.errors import BadMeter, NoHeights, NoSuchSum
from surelyseen.meters import Meter, growth, meter_facts, readings_fit, stream_meter
from surelyseen.world import World


class MeterTest(unittest.TestCase):
    def test_attributes(self):
        meter = Meter(3, 1, 5, [("read", 2, 7), ("grew", 0, 3, -4, 9)])
        self.assertEqual((meter.ticks, meter.low, meter.high), (3, 1, 5))
        self.assertEqual(meter.facts, (("read", 2, 7), ("grew", 0, 3, -4, 9)))
        self.assertEqual(Meter(1, 0, 0, []).facts, ())
        self.assertEqual(Meter(24, 1000000, 1000000, [("read", 24, -999999999999)]).ticks, 24)
        self.assertEqual(len(Meter(2, 0, 1, [("grew", 0, 1, 5, -5)] * 120).facts), 120)

    def test_wrong_meters(self):
        for ticks, low, high, facts in (
            (0, 0, 1, []), (25, 0, 1, []), (-1, 0, 1, []), (2, -1, 1, []), (2, 2, 1, []), (2, 0, 1000001, []), (2, 1000001, 1000001, []),
            (2, 0, 1, [("read", 0, 0)]), (2, 0, 1, [("read", 3, 0)]), (2, 0, 1, [("read", -1, 0)]), (2, 0, 1, [("read", 1, 0), ("read", 0, 0)]),
            (2, 0, 1, [("grew", 0, 0, 0, 0)]), (2, 0, 1, [("grew", 1, 0, 0, 0)]), (2, 0, 1, [("grew", -1, 1, 0, 0)]), (2, 0, 1, [("grew", 0, 3, 0, 0)]),
            (2, 0, 1, [("grew", 2, 2, 0, 0)]), (2, 0, 1, [("grew", 3, 4, 0, 0)]), (1, 0, 1, [("read", 2, 1)]),
        ):
            with self.assertRaises(BadMeter):
                Meter(ticks, low, high, facts)

    def test_changed_lists_have_no_effect(self):
        facts = [("read", 1, 0)]
        meter = Meter(1, 0, 1, facts)
        facts.append(("read", 1, 1))
        self.assertEqual(meter.facts, (("read", 1, 0),))
        meter_facts(meter).clear()
        self.assertEqual(meter_facts(meter), [(0, 1, 0, 1), (0, 1, 0, 0)])
        readings = [0, 0]
        self.assertTrue(readings_fit(meter, readings))
        self.assertEqual(readings, [0, 0])


class ReadingsTest(unittest.TestCase):
    def test_readings_that_fit(self):
        _, meters = drawn_meters(600, 60, 4, 2)
        for meter in meters:
            fitting = all_readings(meter)
            for readings in fitting:
                self.assertIs(readings_fit(meter, readings), True)
                for k in range(len(readings)):
                    for by in (-1, 1, 4):
                        other = readings[:k] + [readings[k] + by] + readings[k + 1:]
                        self.assertIs(readings_fit(meter, other), other in fitting)

    def test_other_readings(self):
        meter = Meter(2, 0, 3, [])
        for readings in ([], [0], [0, 1], [0, 1, 2, 3], [1, 2, 3], [-1, 0, 1], [0, 4, 4], [0, 2, 1], [0, 3, 7]):
            self.assertIs(readings_fit(meter, readings), False)
        self.assertIs(readings_fit(meter, [0, 3, 6]), True)
        self.assertIs(readings_fit(Meter(2, 0, 3, [("read", 2, 5)]), [0, 3, 6]), False)

    def test_facts(self):
        meter = Meter(3, 1, 5, [("read", 2, 7), ("grew", 0, 3, -4, 9), ("read", 3, -12), ("grew", 1, 2, 9, 3)])
        self.assertEqual(meter_facts(meter), [
            (0, 1, 1, 5), (1, 2, 1, 5), (2, 3, 1, 5), (0, 2, 7, 7), (0, 3, -4, 9), (0, 3, -12, -12), (1, 2, 9, 3),
        ])


class GrowthTest(unittest.TestCase):
    def test_against_all_readings(self):
        _, meters = drawn_meters(601, 120)
        none = 0
        for meter in meters:
            fitting = all_readings(meter)
            for a in range(meter.ticks + 1):
                for b in range(a, meter.ticks + 1):
                    if fitting:
                        growths = [readings[b] - readings[a] for readings in fitting]
                        self.assertEqual(growth(meter, a, b), (min(growths), max(growths)))
                        self.assertEqual(set(growths), set(range(min(growths), max(growths) + 1)))
                    else:
                        none += 1
                        with self.assertRaises(NoHeights) as caught:
                            growth(meter, a, b)
                        check_low_ring(self, own_facts(meter), caught.exception.ring)
        self.assertGreater(none, 50)

    def test_points_come_first(self):
        fine, wrong = Meter(2, 0, 1, []), Meter(2, 0, 1, [("read", 1, 5)])
        for meter in (fine, wrong):
            for a, b in ((-1, 0), (0, 3), (1, 0), (2, 1), (3, 3), (-1, -1), (-2, 5)):
                with self.assertRaises(BadMeter):
                    growth(meter, a, b)
        for a, b in ((0, 0), (1, 1), (2, 2), (0, 2)):
            with self.assertRaises(NoHeights):
                growth(wrong, a, b)
        self.assertEqual([growth(fine, k, k) for k in range(3)], [(0, 0)] * 3)
        with self.assertRaises(NoHeights) as caught:
            growth(Meter(1, 0, 9, [("grew", 0, 1, 4, 3)]), 1, 1)
        check_low_ring(self, [(0, 1, 0, 9), (0, 1, 4, 3)], caught.exception.ring)

    def test_large(self):
        draw = draws(602)
        for _ in range(5):
            meter, hidden = large_meter(draw)
            self.assertTrue(readings_fit(meter, hidden))
            for _ in range(20):
                a, b = sorted(draw.choices(range(25), k=2))
                least, greatest = growth(meter, a, b)
                self.assertTrue(least <= hidden[b] - hidden[a] <= greatest)
            self.assertFalse(readings_fit(meter, [hidden[-1] + 24000000 if k == 24 else one for k, one in enumerate(hidden)]))


class StreamMeterTest(unittest.TestCase):
    def test_facts(self):
        world = World([("a", 1, 9), ("b", 0, 3), ("c", 0, 1)], ticks=4, folds=[2, 4], groups=[("g", ["a", "b"])])
        box = Box(world).narrowed(("a", 1, 1), least=5, greatest=4).narrowed(("a", 0, 2), greatest=3).narrowed(("g", 2, 0), greatest=1)
        meter = stream_meter(box, "a")
        self.assertEqual((meter.ticks, meter.low, meter.high), (4, 1, 9))
        self.assertEqual(meter.facts, (
            ("grew", 0, 1, 1, 9), ("grew", 1, 2, 1, 9), ("grew", 2, 3, 1, 3), ("grew", 3, 4, 1, 9), ("grew", 0, 2, 2, 18), ("grew", 2, 4, 5, 4), ("grew", 0, 4, 4, 36),
        ))
        for who in ("x", "g", "all", "row"):
            with self.assertRaises(NoSuchSum) as caught:
                stream_meter(box, who)
            self.assertEqual(caught.exception.asked, (who, 0, 0))

    def test_growths_are_what_the_runs_tell(self):
        draw = draws(603)
        for world in small_worlds():
            listing = Listing(world)
            names = [stream[0] for stream in world.streams]
            for _ in range(6):
                box, _ = fitting_box(draw, world, 0, 0)
                hidden = draw.choice(listing.runs)[0]
                for asked in draw.choices([one for one in own_sums(world) if one[0] in names], k=4):
                    value = sum(hidden[k][tick] for k, tick in own_cells(world, asked))
                    box = box.narrowed(asked, least=value - draw.randint(0, 1), greatest=value + draw.randint(0, 1))
                fitting = [run for run, _ in listing.fitting(box)]
                for k, name in enumerate(names):
                    meter = stream_meter(box, name)
                    for a in range(world.ticks + 1):
                        for b in range(a, world.ticks + 1):
                            growths = [sum(run[k][a:b]) for run in fitting]
                            self.assertEqual(growth(meter, a, b), (min(growths), max(growths)))

    def test_no_run(self):
        world = World([("a", 0, 3)], ticks=2, folds=[2])
        meter = stream_meter(Box(world).narrowed(("a", 1, 0), greatest=2).narrowed(("a", 0, 0), least=3), "a")
        with self.assertRaises(NoHeights) as caught:
            growth(meter, 0, 0)
        check_low_ring(self, own_facts(meter), caught.exception.ring)

    def test_large(self):
        draw = draws(604)
        box = drawn_box(draw, large_world(), 40, 500000)
        for name in "abcdef":
            self.assertEqual(len(stream_meter(box, name).facts), 31)


if __name__ == "__main__":
    unittest.main()
