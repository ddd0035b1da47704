"""Setups (points 37 and 103) and the check of items (point 40)."""

import itertools
import unittest
from unittest import mock

from helpers import doc_world, large_world
from surelyseen.errors import BadItem, BadSetup, NoSuchSum
from surelyseen.setups import Setup, check_item
from surelyseen.world import World


def nested_world():
    """A world whose groups lie in one another or apart."""
    return World(
        [(name, 0, 9) for name in "abcdef"], ticks=4, folds=[2, 4],
        groups=[("trio", ["c", "b", "a"]), ("pair", ["a", "c"]), ("far", ["e", "f"])],
    )


class SetupTest(unittest.TestCase):
    def test_attributes(self):
        world = doc_world()
        setup = Setup(world)
        self.assertEqual((setup.world, setup.cap, setup.samples), (world, 9, ()))
        setup = Setup(world, cap=3, samples=[("bad", 3, 1, ["slow", "err"]), ("all", 2, 0, [])])
        self.assertEqual((setup.cap, setup.samples), (3, (("bad", 3, 1, ("slow", "err")), ("all", 2, 0, ()))))

    def test_arguments_by_keyword_only(self):
        with self.assertRaises(TypeError):
            Setup(doc_world(), 9)

    def test_cap(self):
        for cap in (1, 2, 999, 1000):
            self.assertEqual(Setup(doc_world(), cap=cap).cap, cap)
        for cap in (0, -1, 1001, 1000000):
            with self.assertRaises(BadSetup):
                Setup(doc_world(), cap=cap)

    def test_modulus_and_rest(self):
        for modulus, rest in ((1, 0), (2, 0), (2, 1), (1000, 0), (1000, 999), (7, 6)):
            setup = Setup(doc_world(), samples=[("all", modulus, rest, [])])
            self.assertEqual(setup.samples, (("all", modulus, rest, ()),))
        for modulus, rest in ((0, 0), (1, 1), (2, 2), (2, -1), (1001, 0), (1001, 1000), (-2, -3), (0, -1), (1000, 1000)):
            with self.assertRaises(BadSetup):
                Setup(doc_world(), samples=[("all", modulus, rest, [])])

    def test_who(self):
        for who in ("all", "bad"):
            Setup(doc_world(), samples=[(who, 3, 0, [])])
        for who in ("ok", "err", "web", "", "ALL", "some"):
            with self.assertRaises(BadSetup):
                Setup(doc_world(), samples=[(who, 3, 0, [])])
        lone = World([("a", 0, 9)], ticks=2, folds=[2])
        Setup(lone, samples=[("all", 3, 0, [])])
        with self.assertRaises(BadSetup):
            Setup(lone, samples=[("a", 3, 0, [])])

    def test_always(self):
        world = nested_world()
        members = {"all": "abcdef", "trio": "abc", "pair": "ac", "far": "ef"}
        groups = [set(text) for who, text in members.items() if who != "all"]
        for who, text in members.items():
            for length in range(7):
                for always in itertools.combinations("abcdef", length):
                    good = set(always) <= set(text) and (
                        length < 2 or set(always) == set(text) or set(always) in groups
                    )
                    for order in (always, always[::-1]):
                        if good:
                            setup = Setup(world, samples=[(who, 5, 2, list(order))])
                            self.assertEqual(setup.samples[0][3], order)
                        else:
                            with self.assertRaises(BadSetup):
                                Setup(world, samples=[(who, 5, 2, list(order))])

    def test_always_with_other_entries(self):
        for always in (["web"], ["bad"], ["all"], ["err", "err"], ["slow", "err", "slow"], ["slow", "err", "web"], [""]):
            for who in ("all", "bad"):
                with self.assertRaises(BadSetup):
                    Setup(doc_world(), samples=[(who, 3, 0, always)])

    def test_many_rules(self):
        """A world has at most four groups, however they lie: a sixth rule names a who again or one that is none."""
        chain = [("ga", ["a", "b"]), ("gb", ["a", "b", "c"]), ("gc", ["a", "b", "c", "d"]), ("gd", ["a", "b", "c", "d", "e"])]
        pairs = [("ga", ["a", "b"]), ("gb", ["c", "d"]), ("gc", ["e", "f"]), ("gd", ["a", "b", "c", "d"])]
        for groups in (chain, pairs):
            world = World([(name, 0, 9) for name in "abcdef"], ticks=2, folds=[2], groups=groups)
            rules = [(who, 1000, 999, []) for who in ("gc", "all", "ga", "gd", "gb")]
            self.assertEqual([rule[0] for rule in Setup(world, samples=rules).samples], ["gc", "all", "ga", "gd", "gb"])
            for more in (("all", 3, 0, []), ("ga", 2, 1, ["a"]), ("a", 3, 0, []), ("ge", 3, 0, [])):
                for many in (1, 2):
                    with self.assertRaises(BadSetup):
                        Setup(world, samples=rules + [more] * many)

    def test_a_rule_that_comes_again(self):
        for samples in ([("all", 3, 0, []), ("all", 3, 0, [])], [("bad", 3, 0, []), ("all", 3, 0, []), ("bad", 2, 0, [])]):
            with self.assertRaises(BadSetup):
                Setup(doc_world(), samples=samples)

    def test_each_rule_is_checked(self):
        good = ("all", 3, 0, [])
        for bad in (("bad", 0, 0, []), ("ok", 3, 0, []), ("bad", 3, 3, []), ("bad", 3, 0, ["ok"])):
            for samples in ([good, bad], [bad, good]):
                with self.assertRaises(BadSetup):
                    Setup(doc_world(), samples=samples)

    def test_equal(self):
        rules = [("bad", 3, 1, ["slow", "err"]), ("all", 2, 0, [])]
        setup = Setup(doc_world(), cap=3, samples=rules)
        self.assertTrue(setup == Setup(doc_world(), cap=3, samples=list(rules)))
        self.assertFalse(setup != Setup(doc_world(), cap=3, samples=list(rules)))
        self.assertTrue(Setup(doc_world()) == Setup(doc_world(), cap=9, samples=()))
        other_world = World([("ok", 0, 9), ("err", 0, 3), ("slow", 0, 3)], ticks=4, folds=[4], groups=[("bad", ["err", "slow"])])
        others = [
            Setup(other_world, cap=3, samples=rules), Setup(doc_world(), cap=4, samples=rules),
            Setup(doc_world(), cap=3, samples=rules[::-1]), Setup(doc_world(), cap=3, samples=rules[:1]),
            Setup(doc_world(), cap=3, samples=[("bad", 3, 1, ["err", "slow"]), rules[1]]),
            Setup(doc_world(), cap=3, samples=[("bad", 3, 2, ["slow", "err"]), rules[1]]),
            Setup(doc_world(), cap=3, samples=[("bad", 4, 1, ["slow", "err"]), rules[1]]),
        ]
        for other in others + [None, 3, rules, doc_world(), mock.ANY, (doc_world(), 3, tuple(rules))]:
            self.assertFalse(setup == other)
            self.assertTrue(setup != other)

    def test_changed_lists_have_no_effect(self):
        always = ["slow", "err"]
        samples = [("bad", 3, 1, always)]
        setup = Setup(doc_world(), samples=samples)
        always.pop()
        samples.append(("all", 2, 0, []))
        self.assertEqual(setup.samples, (("bad", 3, 1, ("slow", "err")),))
        check_item(setup, ("row", "bad", 0, 0, "err"))
        with self.assertRaises(BadItem):
            check_item(setup, ("row", "all", 0, 0, "err"))


class CheckItemTest(unittest.TestCase):
    def setUp(self):
        self.setup = Setup(doc_world(), cap=5, samples=[("bad", 3, 1, ["err"])])

    def check_good(self, items):
        for item in items:
            self.assertIsNone(check_item(self.setup, item))

    def check_bad(self, items):
        for item in items:
            with self.assertRaises(BadItem) as caught:
                check_item(self.setup, item)
            self.assertEqual(caught.exception.item, item)

    def check_no_sum(self, pairs):
        for item, asked in pairs:
            with self.assertRaises(NoSuchSum) as caught:
                check_item(self.setup, item)
            self.assertEqual(caught.exception.asked, asked)

    def test_count(self):
        self.check_good([("count", "ok", tick, 0, 1) for tick in range(4)])
        self.check_good([("count", "err", 3, 999, 5), ("count", "slow", 0, 7, 3)])
        self.check_bad([
            ("count", "bad", 0, 0, 1), ("count", "all", 0, 0, 1), ("count", "ok", 0, -1, 1), ("count", "ok", 0, 1000, 1),
            ("count", "ok", 0, 0, 0), ("count", "ok", 0, 0, 6), ("count", "ok", 0, 0, -1),
        ])
        self.check_no_sum([
            (("count", "web", 0, 0, 1), ("web", 0, 0)), (("count", "ok", 4, 0, 1), ("ok", 0, 4)),
            (("count", "ok", -1, 1000, 99), ("ok", 0, -1)), (("count", "bad", 9, 0, 1), ("bad", 0, 9)),
        ])

    def test_close(self):
        self.check_good([("close", "ok", 0, 0), ("close", "slow", 3, 1000), ("close", "err", 2, 17)])
        self.check_bad([("close", "bad", 0, 1), ("close", "all", 0, 1), ("close", "ok", 0, -1), ("close", "ok", 0, 1001)])
        self.check_no_sum([
            (("close", "web", 0, 1), ("web", 0, 0)), (("close", "ok", 4, -1), ("ok", 0, 4)), (("close", "all", 4, 1), ("all", 0, 4)),
        ])

    def test_total(self):
        self.check_good([
            ("total", ("ok", 0, 0), 0, 0), ("total", ("all", 2, 0), 0, 999999999), ("total", ("bad", 2, 0), 999999999, 999999999),
            ("total", ("slow", 1, 1), 5, 7),
        ])
        self.check_bad([
            ("total", ("ok", 0, 0), 1, 0), ("total", ("ok", 0, 0), -1, 0), ("total", ("ok", 0, 0), 0, 1000000000),
            ("total", ("ok", 0, 0), 1000000000, 1000000000), ("total", ("ok", 0, 0), -2, -1),
        ])
        self.check_no_sum([
            (("total", ("bad", 1, 0), 0, 1), ("bad", 1, 0)), (("total", ("web", 0, 0), 1, 0), ("web", 0, 0)),
            (("total", ("ok", 3, 0), -1, 1), ("ok", 3, 0)),
        ])

    def test_row(self):
        self.check_good([("row", "bad", 0, 0, "slow"), ("row", "bad", 3, 9999, "err"), ("row", "bad", 1, 2, "slow")])
        self.check_bad([
            ("row", "all", 0, 0, "ok"), ("row", "ok", 0, 0, "ok"), ("row", "bad", 0, -1, "err"), ("row", "bad", 0, 10000, "err"),
            ("row", "bad", 0, 0, "ok"), ("row", "bad", 0, 0, "bad"), ("row", "bad", 0, 0, "web"),
        ])
        self.check_no_sum([
            (("row", "web", 0, 0, "err"), ("web", 0, 0)), (("row", "bad", 4, 10000, "ok"), ("bad", 0, 4)),
            (("row", "all", 4, 0, "ok"), ("all", 0, 4)),
        ])

    def test_rows(self):
        self.check_good([
            ("rows", "bad", 0, ()), ("rows", "bad", 3, (0,)), ("rows", "bad", 1, (9999,)), ("rows", "bad", 0, (0, 1, 2, 9999)),
            ("rows", "bad", 0, tuple(range(200))), ("rows", "bad", 0, tuple(range(9800, 10000))),
        ])
        self.check_bad([
            ("rows", "all", 0, ()), ("rows", "slow", 0, (1,)), ("rows", "bad", 0, (-1,)), ("rows", "bad", 0, (10000,)),
            ("rows", "bad", 0, (1, 1)), ("rows", "bad", 0, (2, 1)), ("rows", "bad", 0, (0, 1, 3, 2)), ("rows", "bad", 0, (5, 9, 10000)),
            ("rows", "bad", 0, tuple(range(201))), ("rows", "bad", 0, tuple(range(9799, 10000))),
        ])
        self.check_no_sum([
            (("rows", "web", 0, ()), ("web", 0, 0)), (("rows", "bad", 4, (2, 1)), ("bad", 0, 4)), (("rows", "all", -1, ()), ("all", 0, -1)),
        ])

    def test_cap_1_and_1000(self):
        for cap in (1, 1000):
            setup = Setup(large_world(), cap=cap)
            check_item(setup, ("count", "a", 15, 0, cap))
            for events in (0, cap + 1):
                with self.assertRaises(BadItem):
                    check_item(setup, ("count", "a", 15, 0, events))

    def test_no_rule_at_all(self):
        setup = Setup(doc_world())
        for item in (("row", "all", 0, 0, "ok"), ("rows", "all", 0, ()), ("rows", "bad", 0, ())):
            with self.assertRaises(BadItem) as caught:
                check_item(setup, item)
            self.assertEqual(caught.exception.item, item)


if __name__ == "__main__":
    unittest.main()
