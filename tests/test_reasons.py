"""Which items make an answer sure (point 98)."""

import itertools
import unittest

from asking import drawn_question
from happenings import Happenings, drawn_items, small_setups
from helpers import all_runs, doc_world, draws, large_world
from sureness import listed_word, own_reasons
from surelyseen.answers import answer
from surelyseen.cases import case_count
from surelyseen.clashes import least_clash
from surelyseen.errors import BadForm, BadItem, NoSuchSum, TooManyCases
from surelyseen.gathering import box_of
from surelyseen.reasons import reasons
from surelyseen.setups import Setup
from surelyseen.world import World


class ReasonsTest(unittest.TestCase):
    def test_against_all_that_could_have_happened(self):
        draw = draws(160)
        words = []
        for setup in small_setups():
            happenings = Happenings(setup)
            runs = list(all_runs(setup.world))
            for share, wrong in ((0.3, 0), (0.4, 0), (0.6, 0), (0.9, 0), (0.6, 0), (0.8, 0), (0.4, 1), (0.4, 2), (0.3, 3)):
                items = drawn_items(draw, setup, draw.choice(runs), share, wrong)[:20]
                question = drawn_question(draw, setup.world, draw.randint(1, 3), 2)
                if max(case_count(setup.world, question, holding=side) for side in (True, False)) > 20:
                    continue
                words.append(listed_word(happenings, runs, items, question))
                expected = own_reasons(items, lambda some: listed_word(happenings, runs, some, question))
                for _ in range(3):
                    kept_items = list(items)
                    self.assertEqual(reasons(setup, items, question), expected)
                    self.assertEqual(items, kept_items)
                    draw.shuffle(items)
                if expected is not None:
                    self.check_least(setup, expected, question, words[-1])
        for word in ("yes", "no", "open", "clash"):
            self.assertGreaterEqual(words.count(word), 4)

    def check_least(self, setup, found, question, word):
        """The word is the same for what was found, and another one if any item is left out."""
        self.assertEqual(answer(box_of(setup, found), question)[0], word)
        for place in range(len(found)):
            self.assertNotEqual(answer(box_of(setup, found[:place] + found[place + 1:]), question)[0], word)

    def test_every_order(self):
        setup = Setup(World([("a", 0, 9), ("b", 0, 9)], ticks=2, folds=[2]), cap=3)
        items = [
            ("close", "a", 0, 2), ("count", "a", 0, 0, 3), ("count", "a", 0, 1, 2), ("total", ("a", 0, 0), 3, 9), ("total", ("b", 1, 0), 0, 3),
        ]
        question = ("is", ("all", 0, 0), ">=", 3)
        for order in itertools.permutations(items):
            self.assertEqual(reasons(setup, list(order), question), [("total", ("a", 0, 0), 3, 9)])
            self.assertEqual(reasons(setup, list(order), ("not", question)), [("total", ("a", 0, 0), 3, 9)])
            self.assertEqual(reasons(setup, list(order[:4]) + list(order[:2]), ("is", ("b", 0, 0), "<=", 9)), [])
        question = ("is", ("a", 0, 0), "=", 5)
        for order in itertools.permutations(items):
            self.assertEqual(reasons(setup, list(order), question), [("close", "a", 0, 2), ("count", "a", 0, 0, 3), ("count", "a", 0, 1, 2)])

    def test_words(self):
        setup = Setup(doc_world(), cap=5)
        items = [("close", "ok", 0, 1), ("count", "ok", 1, 0, 3)]
        self.assertIsNone(reasons(setup, items, ("is", ("ok", 0, 0), ">=", 3)))
        self.assertIsNone(reasons(setup, [], ("is", ("ok", 0, 0), ">=", 3)))
        self.assertEqual(reasons(setup, items, ("is", ("ok", 0, 0), ">=", 6)), [items[0]])
        self.assertEqual(reasons(setup, items, ("is", ("ok", 0, 0), ">=", 10)), [])
        self.assertEqual(reasons(setup, [], ("is", ("ok", 0, 0), ">=", 0)), [])
        self.assertEqual(reasons(setup, items, ("every", "ok", 0, 0, 1, ">=", 1)), items)
        clash = items + [("close", "ok", 0, 2), ("total", ("ok", 0, 0), 7, 8)]
        for question in (("is", ("ok", 0, 0), ">=", 0), ("is", ("err", 0, 0), ">=", 2)):
            self.assertEqual(reasons(setup, clash, question), least_clash(setup, clash))
        self.assertEqual(least_clash(setup, clash), [("close", "ok", 0, 1), ("total", ("ok", 0, 0), 7, 8)])

    def test_order_of_errors(self):
        world = World([("a", 0, 3)], ticks=16, folds=[16])
        setup = Setup(world, cap=2)
        bad, no_sum = ("count", "a", 0, 0, 3), ("close", "a", 16, 0)
        form = ("is", ("web", 0, 0), "=", -1)
        wide = ("some", "a", 0, 0, 15, "=", 1)
        clash = [("close", "a", 0, 1), ("close", "a", 0, 2)]
        for question in (form, wide, ("is", ("web", 0, 0), "=", 1)):
            with self.assertRaises(BadItem) as caught:
                reasons(setup, clash + [bad, no_sum], question)
            self.assertEqual(caught.exception.item, bad)
            with self.assertRaises(NoSuchSum) as caught:
                reasons(setup, [no_sum, bad], question)
            self.assertEqual(caught.exception.asked, ("a", 0, 16))
        for items in ([], clash):
            with self.assertRaises(BadForm) as caught:
                reasons(setup, items, ("or", (wide, form)))
            self.assertEqual(caught.exception.part, form)
            with self.assertRaises(NoSuchSum) as caught:
                reasons(setup, items, ("or", (wide, ("is", ("web", 0, 0), "=", 1))))
            self.assertEqual(caught.exception.asked, ("web", 0, 0))
            for question in (wide, ("not", wide)):
                with self.assertRaises(TooManyCases) as caught:
                    reasons(setup, items, question)
                self.assertEqual(caught.exception.many, 65536)

    def test_20_items_of_a_large_world(self):
        draw = draws(161)
        world = large_world(0, 1000000)
        setup = Setup(world, cap=1000)
        items = [("total", ("all", 0, tick), 1000, 2000 + tick) for tick in range(10)] + [("total", ("a", 2, k), 0, 900) for k in range(4)]
        items += [("total", ("trio", 4, 0), 0, 5000), ("total", ("e", 1, 2), 30, 40), ("close", "b", 3, 2), ("count", "b", 3, 1, 999)]
        items += [("total", ("outer", 0, 9), 0, 3), ("total", ("all", 2, 0), 7000, 7100)]
        self.assertEqual(len(items), 20)
        for question, word in (
            (("row", 4, "all", 0, 0, 8, ">=", 1000), "yes"), (("some", "all", 0, 0, 3, ">=", 1750), "yes"), (("every", "all", 0, 0, 9, "<=", 2009), "yes"),
            (("row", 3, "all", 0, 0, 6, ">=", 2100), "no"), (("some", "a", 0, 0, 9, ">=", 901), "no"), (("is", ("b", 1, 1), ">=", 1001), "open"),
        ):
            self.assertEqual(answer(box_of(setup, items), question)[0], word)
            draw.shuffle(items)
            found = reasons(setup, items, question)
            self.assertEqual(found, own_reasons(items, lambda some: answer(box_of(setup, some), question)[0]))
            if word != "open":
                self.check_least(setup, found, question, word)

    def test_lists_may_change_afterwards(self):
        setup = Setup(doc_world(), cap=5)
        items = [("close", "ok", 0, 1)]
        found = reasons(setup, items, ("is", ("ok", 0, 0), ">=", 1))
        self.assertEqual(found, items)
        found.clear()
        self.assertEqual(reasons(setup, items, ("is", ("ok", 0, 0), ">=", 1)), [("close", "ok", 0, 1)])


if __name__ == "__main__":
    unittest.main()
