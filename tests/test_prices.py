"""What is sure of a weighted sum (points 33 to 36)."""

import unittest

from helpers import Listing, check_clash, doc_world, drawn_box, draws, fitting_box, large_world, own_bound, own_fits
from helpers import own_sums, own_value, own_weights, small_worlds
from surelyseen.boxes import Box
from surelyseen.errors import NoRun, NoSuchSum
from surelyseen.prices import heaviest, lightest, shows_greatest, shows_least, stretch
from surelyseen.world import World

NO_SUM = ("bad", 1, 0)
KINDS = [(lightest, shows_least, 0), (heaviest, shows_greatest, 1)]


def drawn_weights(draw, world, many, most=100):
    return [
        (draw.choice(own_sums(world)), draw.choice([-1, 1]) * draw.randint(1, most)) for _ in range(many)
    ]


def worth(world, table, weights):
    return sum(coefficient * own_value(world, table, asked) for asked, coefficient in weights)


def own_shows(box, weights, value, run, balance, side):
    """Whether a paper shows the value, by adding numbers."""
    world = box.world
    lengths = [len(counts) for counts in run]
    if lengths != [world.ticks] * len(world.streams) or not own_fits(box, run):
        return False
    if worth(world, run, weights) != value or own_bound(box, balance, side) != value:
        return False
    return own_weights(world, balance) == own_weights(world, weights)


def crossed_box():
    """The box of the example of point 35."""
    box = Box(World([("a", 0, 1), ("b", 0, 1)], ticks=2, folds=[2]))
    for asked in (("a", 1, 0), ("b", 1, 0), ("all", 0, 0)):
        box = box.narrowed(asked, least=1, greatest=1)
    return box


class PricesTest(unittest.TestCase):
    def check_paper(self, box, weights, kind, expected):
        """What `lightest` or `heaviest` returns, if this is the value."""
        call, shows, side = kind
        kept = (list(box), list(weights))
        found = call(box, weights)
        self.assertEqual((list(box), weights), kept)
        self.assertIsInstance(found, tuple)
        value, run, balance = found
        self.assertEqual(value, expected)
        self.assertIsInstance(balance, list)
        self.assertTrue(all(coefficient != 0 for _, coefficient in balance))
        self.assertTrue(own_shows(box, weights, value, run, balance, side))
        self.assertIs(shows(box, weights, value, run, balance), True)

    def check_no_run(self, box, weights):
        for call, _, _ in KINDS:
            with self.assertRaises(NoRun) as caught:
                call(box, weights)
            check_clash(self, box, caught.exception.balance)

    def test_the_example(self):
        box = crossed_box()
        weights = [(("a", 0, 0), 1), (("b", 0, 1), 1)]
        self.check_paper(box, weights, KINDS[0], 0)
        self.check_paper(box, weights, KINDS[1], 2)
        taken = [worth(box.world, run, weights) for run, _ in Listing(box.world).fitting(box)]
        self.assertEqual(sorted(taken), [0, 2])

    def test_against_all_runs(self):
        draw = draws(50)
        words = set()
        for world in small_worlds():
            listing = Listing(world)
            for many in (0, 1, 2, 4, 7, 12):
                for length in (0, 1, 2, 3, 10):
                    box = drawn_box(draw, world, many, 1)
                    weights = drawn_weights(draw, world, length, draw.choice([1, 3, 100]))
                    taken = [worth(world, run, weights) for run, _ in listing.fitting(box)]
                    words.add(bool(taken))
                    if taken:
                        self.check_paper(box, weights, KINDS[0], min(taken))
                        self.check_paper(box, weights, KINDS[1], max(taken))
                    else:
                        self.check_no_run(box, weights)
        self.assertEqual(words, {True, False})

    def test_around_one_run(self):
        draw = draws(51)
        for world in small_worlds():
            listing = Listing(world)
            for share in (0.2, 0.5, 0.8):
                for length in (2, 5, 20):
                    box, _ = fitting_box(draw, world, share, 1)
                    weights = drawn_weights(draw, world, length)
                    taken = [worth(world, run, weights) for run, _ in listing.fitting(box)]
                    self.check_paper(box, weights, KINDS[0], min(taken))
                    self.check_paper(box, weights, KINDS[1], max(taken))

    def test_empty_weights(self):
        for world in small_worlds() + [doc_world(), large_world()]:
            for kind in KINDS:
                self.check_paper(Box(world), [], kind, 0)
        self.check_no_run(Box(doc_world()).narrowed(("ok", 0, 0), least=2, greatest=1), [])

    def test_a_sum_that_comes_again(self):
        box = Box(doc_world()).narrowed(("bad", 2, 0), least=3, greatest=7)
        asked = ("bad", 2, 0)
        for weights, low, high in (
            ([(asked, 2), (asked, 3)], 15, 35), ([(asked, 2), (asked, -2)], 0, 0), ([(asked, 1)] * 100, 300, 700),
            ([(asked, 100)] * 50 + [(asked, -100)] * 49 + [(asked, -1)], 297, 693), ([(asked, -1)] * 3, -21, -9),
        ):
            self.check_paper(box, weights, KINDS[0], low)
            self.check_paper(box, weights, KINDS[1], high)

    def test_sums_that_add_up(self):
        box = Box(doc_world()).narrowed(("bad", 0, 1), least=2, greatest=4)
        weights = [(("bad", 0, 1), -3), (("err", 0, 1), 3), (("slow", 0, 1), 3)]
        self.check_paper(box, weights, KINDS[0], 0)
        self.check_paper(box, weights, KINDS[1], 0)
        self.check_paper(box, weights + [(("ok", 0, 0), 100)], KINDS[1], 900)

    def test_errors_in_their_order(self):
        world = doc_world()
        clash = Box(world).narrowed(("ok", 0, 0), least=2, greatest=1)
        wrong = [(("ok", 0, 0), 1), (NO_SUM, 1), (("web", 0, 0), 1)]
        for box in (Box(world), clash):
            for call, shows, _ in KINDS:
                calls = [
                    lambda: call(box, wrong), lambda: shows(box, wrong, 0, [], []),
                    lambda: shows(box, wrong, 0, [[0] * 4] * 3, [(("web", 1, 0), 1)]),
                    lambda: shows(box, [(("ok", 0, 0), 1)], 0, [], [(("ok", 0, 0), 1)] + wrong[1:]),
                ]
                for one in calls:
                    with self.assertRaises(NoSuchSum) as caught:
                        one()
                    self.assertEqual(caught.exception.asked, NO_SUM)
        self.check_no_run(clash, [(("ok", 0, 0), 1)])

    def test_spoilt_papers(self):
        draw = draws(52)
        verdicts = []
        for world in small_worlds() + [doc_world()]:
            for _ in range(12):
                box, hidden = fitting_box(draw, world, 0.4, 1)
                weights = drawn_weights(draw, world, draw.randint(0, 4), 3)
                for call, shows, side in KINDS:
                    value, run, balance = call(box, weights)
                    for spoilt in self.spoilt(draw, world, value, run, balance, hidden):
                        expected = own_shows(box, weights, *spoilt, side)
                        verdicts.append(expected)
                        self.assertIs(shows(box, weights, *spoilt), expected)
                        self.assertIs(KINDS[1 - side][1](box, weights, *spoilt), own_shows(box, weights, *spoilt, 1 - side))
        self.assertGreater(verdicts.count(True), 50)
        self.assertGreater(verdicts.count(False), 500)

    def spoilt(self, draw, world, value, run, balance, hidden):
        asked = draw.choice(own_sums(world))
        moved = [list(counts) for counts in run]
        moved[draw.randrange(len(moved))][draw.randrange(world.ticks)] += draw.choice([-1, 1])
        outside = [list(counts) for counts in run]
        outside[0][0] = world.streams[0][2] + 1
        longer = [(one, coefficient * 2) for one, coefficient in balance]
        return [
            (value, run, balance), (value + 1, run, balance), (value - 1, run, balance), (value, moved, balance),
            (value, outside, balance), (value, hidden, balance), (value, run[1:], balance), (value, run + [run[0]], balance),
            (value, [], balance), (value, [counts[1:] for counts in run], balance), (value, run[:-1] + [run[-1] + [0]], balance),
            (value, run, balance[1:]), (value, run, balance + [(asked, 1)]), (value, run, balance[::-1]),
            (value, run, balance + [(asked, 1), (asked, -1)]), (value, run, longer), (value, run, []),
        ]

    def test_a_run_of_other_lengths_is_no_error(self):
        box = Box(doc_world())
        weights = [(("ok", 0, 0), 1)]
        for run in ([], [[]], [[0] * 4] * 2, [[0] * 4] * 4, [[0] * 5] * 3, [[0] * 3] * 3, [[0] * 4, [0] * 4, []]):
            self.assertIs(shows_least(box, weights, 0, run, weights), False)
            self.assertIs(shows_greatest(box, weights, 0, run, weights), False)
        self.assertIs(shows_least(box, weights, 0, [[0] * 4] * 3, weights), True)
        self.assertIs(shows_greatest(box, weights, 0, [[0] * 4] * 3, weights), False)
        self.assertIs(shows_greatest(box, weights, 9, [[9] * 4, [0] * 4, [0] * 4], weights), True)

    def test_large_worlds(self):
        draw = draws(53)
        for low, high in ((0, 1000000), (0, 3)):
            world = large_world(low, high)
            cells = [asked for asked in own_sums(world) if asked[1] == 0 and asked[0] in "abcdef"]
            for share, slack in ((0, 0), (0.05, 10), (0.3, 1000), (1, 2), (1, 300000)):
                box, hidden = fitting_box(draw, world, share, slack)
                dense = [(asked, draw.choice([-1, 1]) * draw.randint(1, 100)) for asked in cells]
                for weights in (drawn_weights(draw, world, 100), dense):
                    least, greatest = lightest(box, weights)[0], heaviest(box, weights)[0]
                    self.check_paper(box, weights, KINDS[0], least)
                    self.check_paper(box, weights, KINDS[1], greatest)
                    self.assertTrue(least <= worth(world, hidden, weights) <= greatest)

    def test_large_papers(self):
        draw = draws(54)
        world = large_world()
        box, hidden = fitting_box(draw, world, 0.5, 1000)
        weights = drawn_weights(draw, world, 100)
        value, run, balance = lightest(box, weights)
        fixed = box.narrowed(("b", 1, 3), least=run[1][6] + run[1][7], greatest=run[1][6] + run[1][7])
        more = [(("b", 1, 3), 1000000), (("b", 1, 3), -1000000)] * ((400 - len(balance)) // 2)
        self.assertIs(shows_least(fixed, weights, value, run, balance + more), True)
        self.assertIs(shows_least(fixed, weights, value, run, balance + more + more[:1]), False)
        more = [(draw.choice(own_sums(world)), draw.choice([-1000000, 1000000])) for _ in range(400 - len(balance))]
        expected = own_shows(box, weights, value, run, balance + more, 0)
        self.assertIs(shows_least(box, weights, value, run, balance + more), expected)
        self.assertIs(shows_least(box, weights, value, run, balance + [(("a", 0, 0), 1)]), False)
        self.assertIs(shows_least(box, weights, value, hidden, balance), worth(world, hidden, weights) == value)

    def test_lists_may_change_afterwards(self):
        box = Box(doc_world()).narrowed(("all", 2, 0), least=5, greatest=7)
        weights = [(("ok", 0, 0), 2), (("bad", 0, 1), -3)]
        for call, shows, _ in KINDS:
            expected = call(box, list(weights))
            given = list(weights)
            value, run, balance = call(box, given)
            given.clear()
            self.assertTrue(shows(box, weights, value, run, balance))
            run[0].clear()
            balance.clear()
            self.assertEqual(call(box, weights), expected)


class StretchTest(unittest.TestCase):
    def test_stretches(self):
        world = doc_world()
        for who in ("ok", "slow", "bad", "all"):
            for start in range(4):
                for stop in range(start, 4):
                    expected = [((who, 0, tick), 1) for tick in range(start, stop + 1)]
                    self.assertEqual(stretch(world, who, start, stop), expected)
        self.assertIsInstance(stretch(world, "ok", 1, 2)[0], tuple)

    def test_start_greater_than_stop(self):
        world = doc_world()
        for who, start, stop in (("ok", 1, 0), ("ok", 3, 2), ("web", 1, 0), ("ok", 99, 98), ("all", 0, -1), ("bad", 5, -7)):
            self.assertEqual(stretch(world, who, start, stop), [])

    def test_first_sum_that_does_not_exist(self):
        world = doc_world()
        for who, start, stop, tick in (
            ("web", 0, 3, 0), ("ok", 0, 4, 4), ("ok", 2, 999999999, 4), ("all", -1, 2, -1), ("bad", 4, 4, 4), ("ok", 7, 9, 7),
            ("ok", -999999999, 999999999, -999999999),
        ):
            with self.assertRaises(NoSuchSum) as caught:
                stretch(world, who, start, stop)
            self.assertEqual(caught.exception.asked, (who, 0, tick))

    def test_weights_of_a_stretch(self):
        world = doc_world()
        box = Box(world).narrowed(("ok", 1, 0), greatest=4).narrowed(("ok", 0, 2), least=3)
        self.assertEqual(lightest(box, stretch(world, "ok", 1, 2))[0], 3)
        self.assertEqual(heaviest(box, stretch(world, "ok", 1, 2))[0], 13)
        found = stretch(world, "ok", 0, 1)
        found.clear()
        self.assertEqual(len(stretch(world, "ok", 0, 1)), 2)


if __name__ == "__main__":
    unittest.main()
