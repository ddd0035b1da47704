"""Sampled rows (points 42, 45 and 46)."""

import itertools
import unittest

from happenings import drawn_item, members_of, own_kept, row_fits, small_setups, true_items
from helpers import doc_world, draws, drawn_run, large_world
from surelyseen.errors import BadItem, BadSetup, NoSuchSum
from surelyseen.samples import kept, missing_rows, rows_between, sampled
from surelyseen.setups import Setup
from surelyseen.world import World


def own_rows_between(setup, items, who, tick):
    """The pair of point 46, step by step as point 42 tells it."""
    rule = [entry for entry in setup.samples if entry[0] == who][0]
    modulus, rest, always = rule[1:]
    rows = {item[3:] for item in items if item[0] == "row" and item[1:3] == (who, tick)}
    lists = {item[3] for item in items if item[0] == "rows" and item[1:3] == (who, tick)}
    numbers = [number for number, _ in rows]
    if len(set(numbers)) < len(numbers) or len(lists) == 2 or len(lists) > 2:
        return (1, 0)
    if any(number % modulus != rest and form not in always for number, form in rows):
        return (1, 0)
    if not lists:
        return (max(numbers) + 1 if numbers else 0, None)
    listed = set(lists.pop())
    if set(numbers) - listed or (not always and any(number % modulus != rest for number in listed)):
        return (1, 0)
    least = max(listed) + 1 if listed else 0
    greatest = min(number for number in range(10001 + modulus) if number % modulus == rest and number not in listed)
    if sorted(always) == sorted(members_of(setup.world, who)):
        least, greatest = max(least, len(listed)), min(greatest, len(listed))
    return (least, greatest)


class KeptTest(unittest.TestCase):
    def test_kept(self):
        setup = Setup(doc_world(), samples=[("bad", 3, 1, ["err"]), ("all", 2, 0, [])])
        for number in range(12):
            self.assertIs(kept(setup, "bad", number, "err"), True)
            for stream in ("slow", "ok", "bad", "web", "all", ""):
                self.assertIs(kept(setup, "bad", number, stream), number % 3 == 1)
            for stream in ("slow", "ok", "err"):
                self.assertIs(kept(setup, "all", number, stream), number % 2 == 0)
        self.assertIs(kept(setup, "bad", 100000000, "slow"), 100000000 % 3 == 1)

    def test_edges_of_the_modulus(self):
        for modulus, rest in ((1, 0), (1000, 0), (1000, 999), (2, 1)):
            setup = Setup(doc_world(), samples=[("all", modulus, rest, [])])
            for number in (0, 1, 2, 998, 999, 1000, 1001, 9999):
                self.assertIs(kept(setup, "all", number, "ok"), number % modulus == rest)

    def test_no_rule(self):
        setup = Setup(doc_world(), samples=[("bad", 3, 1, [])])
        for who in ("all", "ok", "web"):
            with self.assertRaises(BadSetup):
                kept(setup, who, 0, "ok")


class RowsBetweenTest(unittest.TestCase):
    def setUp(self):
        self.setup = Setup(doc_world(), samples=[("all", 3, 0, []), ("bad", 2, 1, ["slow"])])

    def check(self, items, who, tick, expected, missing):
        self.assertEqual(rows_between(self.setup, items, who, tick), expected)
        self.assertEqual(missing_rows(self.setup, items, who, tick), missing)

    def test_the_example(self):
        items = [("row", "all", 0, 0, "ok"), ("row", "all", 0, 3, "err"), ("rows", "all", 0, (0, 3))]
        self.check(items, "all", 0, (4, 6), [])
        self.check(items[2:], "all", 0, (4, 6), [0, 3])

    def test_the_least_may_be_larger(self):
        self.check([("rows", "all", 0, (0, 6))], "all", 0, (7, 3), [0, 6])

    def test_nothing_came(self):
        others = [("rows", "all", 1, (0,)), ("rows", "bad", 0, (1,)), ("close", "ok", 0, 5), ("total", ("all", 0, 0), 3, 4)]
        self.check([], "all", 0, (0, None), [])
        self.check(others, "all", 0, (0, None), [])
        self.check([("rows", "all", 0, ())], "all", 0, (0, 0), [])
        self.check([("rows", "bad", 0, ())], "bad", 0, (0, 1), [])

    def test_rows_without_a_list(self):
        self.check([("row", "all", 0, 9999, "ok")], "all", 0, (10000, None), [])
        self.check([("row", "all", 0, 3, "ok"), ("row", "all", 0, 0, "err"), ("row", "all", 0, 3, "ok")], "all", 0, (4, None), [])

    def test_impossible(self):
        for items, missing in (
            ([("row", "all", 0, 3, "ok"), ("row", "all", 0, 3, "err")], []), ([("row", "all", 0, 1, "ok")], []),
            ([("rows", "all", 0, (0,)), ("rows", "all", 0, (0, 3))], [0]), ([("rows", "all", 0, (0, 3)), ("rows", "all", 0, (0,))], [0, 3]),
            ([("rows", "all", 0, (0,)), ("row", "all", 0, 3, "ok")], [0]), ([("rows", "all", 0, (0, 1))], [0, 1]),
            ([("row", "all", 0, 0, "ok"), ("rows", "all", 0, (0, 1))], [1]),
            ([("rows", "all", 0, (3,)), ("row", "all", 0, 3, "ok"), ("rows", "all", 0, ())], []),
        ):
            self.check(items, "all", 0, (1, 0), missing)
        self.check([("row", "bad", 0, 0, "err")], "bad", 0, (1, 0), [])
        self.check([("row", "bad", 0, 0, "slow")], "bad", 0, (1, None), [])
        self.check([("rows", "bad", 0, (0, 2))], "bad", 0, (3, 1), [0, 2])

    def test_always_all(self):
        setup = Setup(doc_world(), samples=[("bad", 5, 4, ["slow", "err"])])
        for numbers, expected in (((), (0, 0)), ((0,), (1, 1)), ((0, 1, 2, 3, 4, 5), (6, 6)), ((1,), (2, 1)), ((0, 4), (5, 2)), ((4,), (5, 1))):
            self.assertEqual(rows_between(setup, [("rows", "bad", 2, numbers)], "bad", 2), expected)

    def test_200_numbers(self):
        setup = Setup(doc_world(), samples=[("all", 50, 49, [])])
        numbers = tuple(range(49, 10000, 50))
        items = [("rows", "all", 3, numbers)]
        self.assertEqual(rows_between(setup, items, "all", 3), (10000, 10049))
        self.assertEqual(missing_rows(setup, items, "all", 3), list(numbers))
        items += [("row", "all", 3, number, "ok") for number in numbers[:199]]
        self.assertEqual(missing_rows(setup, items, "all", 3), [9999])
        self.assertEqual(rows_between(setup, items, "all", 3), (10000, 10049))

    def test_step_by_step(self):
        draw = draws(70)
        answers = []
        for setup in small_setups():
            for _ in range(120):
                items = [item for item in true_items(draw, setup, drawn_run(draw, setup.world)) if draw.random() < 0.7]
                items += [drawn_item(draw, setup) for _ in range(draw.randint(0, 2))]
                draw.shuffle(items)
                kept_items = list(items)
                for who in [rule[0] for rule in setup.samples]:
                    for tick in range(2):
                        answer = rows_between(setup, items, who, tick)
                        answers.append(answer)
                        self.assertEqual(answer, own_rows_between(setup, items, who, tick))
                        self.assertIsInstance(answer, tuple)
                        self.check_missing(setup, items, who, tick)
                self.assertEqual(items, kept_items)
        self.assertGreater(answers.count((1, 0)), 50)
        self.assertGreater(len(set(answers)), 8)

    def check_missing(self, setup, items, who, tick):
        here = [item for item in items if item[1:3] == (who, tick)]
        came = {item[3] for item in here if item[0] == "row"}
        lists = [item[3] for item in here if item[0] == "rows"]
        expected = sorted(set(lists[0]) - came) if lists else []
        self.assertEqual(missing_rows(setup, items, who, tick), expected)

    def test_errors_in_their_order(self):
        bad = ("row", "bad", 0, 0, "ok")
        no_sum = ("close", "ok", 4, 0)
        for call in (rows_between, missing_rows):
            for who, tick in (("all", 0), ("ok", 0), ("all", 4), ("web", 9)):
                with self.assertRaises(BadItem) as caught:
                    call(self.setup, [("close", "ok", 0, 1), bad, no_sum], who, tick)
                self.assertEqual(caught.exception.item, bad)
                with self.assertRaises(NoSuchSum) as caught:
                    call(self.setup, [no_sum, bad], who, tick)
                self.assertEqual(caught.exception.asked, ("ok", 0, 4))
            for who, tick in (("ok", 0), ("web", 0), ("err", 4), ("web", -1)):
                with self.assertRaises(BadSetup):
                    call(self.setup, [], who, tick)
            for who, tick in (("all", 4), ("bad", -1), ("all", 16)):
                with self.assertRaises(NoSuchSum) as caught:
                    call(self.setup, [("rows", "all", 0, ())], who, tick)
                self.assertEqual(caught.exception.asked, (who, 0, tick))

    def test_returned_lists_may_change(self):
        items = [("rows", "all", 0, (0, 3))]
        missing_rows(self.setup, items, "all", 0).clear()
        self.assertEqual(missing_rows(self.setup, items, "all", 0), [0, 3])


class SampledTest(unittest.TestCase):
    def test_all_short_lists(self):
        for setup in small_setups():
            for who, _, _, _ in setup.samples:
                members = members_of(setup.world, who)
                for length in range(5):
                    for forms in itertools.product(members, repeat=length):
                        self.check(setup, who, 1, list(forms))

    def check(self, setup, who, tick, forms):
        items = sampled(setup, who, tick, forms)
        keeping = [number for number, form in enumerate(forms) if own_kept(setup, who, number, form)]
        expected = [("row", who, tick, number, forms[number]) for number in keeping]
        self.assertEqual(items, expected + [("rows", who, tick, tuple(keeping))])
        self.assertTrue(all(row_fits(setup, forms, item) for item in items))

    def test_10000_rows(self):
        draw = draws(71)
        forms = draw.choices(["ok", "slow"], k=10000)
        forms[777] = "err"
        setup = Setup(doc_world(), samples=[("all", 51, 3, ["err"])])
        self.check(setup, "all", 0, forms)
        self.assertEqual(len(sampled(setup, "all", 0, forms)), 197 + 1 + 1)
        setup = Setup(doc_world(), samples=[("all", 50, 49, [])])
        self.check(setup, "all", 0, forms)
        self.assertEqual(len(sampled(setup, "all", 0, forms)[-1][3]), 200)
        self.check(setup, "all", 0, forms + ["ok"] * 49)

    def test_too_many_rows(self):
        setup = Setup(doc_world(), samples=[("all", 50, 0, []), ("bad", 1, 0, [])])
        with self.assertRaises(BadItem) as caught:
            sampled(setup, "all", 0, ["ok"] * 10001)
        self.assertEqual(caught.exception.item, ("row", "all", 0, 10000, "ok"))
        with self.assertRaises(BadItem) as caught:
            sampled(setup, "all", 0, ["ok"] * 10001 + ["web"])
        self.assertEqual(caught.exception.item, ("row", "all", 0, 10000, "ok"))
        with self.assertRaises(BadItem) as caught:
            sampled(setup, "all", 0, ["ok"] * 9999 + ["web", "ok"])
        self.assertEqual(caught.exception.item, ("row", "all", 0, 9999, "web"))
        self.assertEqual(len(sampled(setup, "bad", 0, ["err"] * 200)), 201)
        with self.assertRaises(BadItem) as caught:
            sampled(setup, "bad", 0, ["err"] * 201)
        self.assertEqual(caught.exception.item, ("rows", "bad", 0, tuple(range(201))))

    def test_forms_that_are_no_streams_of_who(self):
        setup = Setup(doc_world(), samples=[("bad", 3, 0, [])])
        for forms, number in ((["ok"], 0), (["err", "ok"], 1), (["err", "slow", "err", "web", "ok"], 3), (["bad"], 0), (["err", ""], 1)):
            with self.assertRaises(BadItem) as caught:
                sampled(setup, "bad", 2, forms)
            self.assertEqual(caught.exception.item, ("row", "bad", 2, number, forms[number]))

    def test_errors_in_their_order(self):
        setup = Setup(doc_world(), samples=[("bad", 3, 0, [])])
        for who, tick in (("web", 0), ("bad", 4), ("all", 4), ("ok", -1)):
            with self.assertRaises(NoSuchSum) as caught:
                sampled(setup, who, tick, ["web"])
            self.assertEqual(caught.exception.asked, (who, 0, tick))
        for who in ("all", "ok"):
            with self.assertRaises(BadItem) as caught:
                sampled(setup, who, 3, ["web"])
            self.assertEqual(caught.exception.item, ("rows", who, 3, ()))

    def test_lists_may_change_afterwards(self):
        setup = Setup(World([("a", 0, 9)], ticks=2, folds=[2]), samples=[("all", 2, 1, [])])
        forms = ["a"] * 4
        found = sampled(setup, "all", 0, forms)
        self.assertEqual(forms, ["a"] * 4)
        forms.clear()
        self.assertEqual(found, [("row", "all", 0, 1, "a"), ("row", "all", 0, 3, "a"), ("rows", "all", 0, (1, 3))])
        found.clear()
        self.assertEqual(len(sampled(setup, "all", 0, ["a"] * 4)), 3)

    def test_large_world(self):
        setup = Setup(large_world(), cap=1000, samples=[("trio", 1000, 999, ["c", "a"]), ("all", 100, 99, ["a", "b", "c"])])
        draw = draws(72)
        self.check(setup, "trio", 15, draw.choices("bc", [9, 1], k=500))
        self.check(setup, "all", 15, draw.choices("def", k=5000))


if __name__ == "__main__":
    unittest.main()
