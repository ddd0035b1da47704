"""The desk (points 99 to 103)."""

import unittest

from asking import drawn_question
from desking import OwnDesk, roughly_written
from happenings import Happenings, drawn_item, small_setups, true_items
from helpers import all_runs, check_clash, doc_world, draws, large_world, own_fits, own_sums, own_value
from surelyseen.answers import answer, shows
from surelyseen.boxes import Box
from surelyseen.cases import case_count
from surelyseen.clashes import least_clash
from surelyseen.desk import Desk, replay
from surelyseen.errors import (
    BadForm, BadItem, BadName, BadQuestion, NoRun, NoSuchSum, NothingToUndo, TooManyCases, WouldLose,
)
from surelyseen.gathering import box_of
from surelyseen.reading import read_question, written_question
from surelyseen.reasons import reasons
from surelyseen.setups import Setup
from surelyseen.world import World


def state_of(desk):
    return (desk.held(), desk.alerts(), desk.promises(), desk.deeds())


def few_cases(world, question, most=64):
    return max(case_count(world, question, holding=side) for side in (True, False)) <= most


def drawn_name(draw):
    return draw.choice(["web", "api", "db", "w1", "w2", "w3", "z"])


class ListingTest(unittest.TestCase):
    """A desk and one that lists all runs, behind every kind of deed."""

    def check_words(self, draw, desk, own):
        self.assertEqual(desk.held(), own.held)
        self.assertEqual(list(desk), own.held)
        self.assertEqual(len(desk), len(own.held))
        self.assertTrue(all(item in desk for item in own.held))
        for _ in range(2):
            item = drawn_item(draw, desk.setup)
            self.assertEqual(item in desk, item in own.held)
        self.assertEqual(desk.promises(), own.promises)
        self.assertEqual(desk.deeds(), own.deeds)
        self.assertEqual(desk.alerts(), own.told_alerts())

    def check_answers(self, draw, desk, own):
        world = own.world
        self.assertEqual(desk.box(), box_of(desk.setup, own.held))
        self.assertEqual([run for run in own.runs if own_fits(desk.box(), run)], own.fitting(own.held))
        self.assertEqual(desk.only_run(), own.only_run())
        question = drawn_question(draw, world, draw.randint(1, 3), 2)
        if few_cases(world, question):
            text = roughly_written(draw, question)
            given = desk.ask(text)
            self.assertEqual(given, answer(desk.box(), question))
            self.assertEqual(given[0], own.word(own.held, question))
            self.assertTrue(shows(desk.box(), question, given))
            if len(own.held) <= 12 and few_cases(world, question, 20):
                self.assertEqual(desk.reasons(text), own.reasons(question))
        if len(own.held) <= 12:
            self.assertEqual(desk.clash(), own.clash())
        who, level, _ = draw.choice(own_sums(world))
        sign, number = draw.choice([">=", "<=", "="]), draw.randint(0, 4)
        report = own.report(who, level)
        if report is None:
            for call in (lambda: desk.report(who, level), lambda: desk.firing(who, level, sign, number)):
                with self.assertRaises(NoRun) as caught:
                    call()
                check_clash(self, desk.box(), caught.exception.balance)
        else:
            self.assertEqual(desk.report(who, level), report)
            self.assertEqual(desk.firing(who, level, sign, number), own.firing(who, level, sign, number))

    def check_twins(self, draw, desk, own):
        twin, again = desk.twin(), replay(desk.setup, desk.deeds())
        for other in (twin, again):
            self.assertTrue(other == desk)
            self.assertFalse(other != desk)
            self.assertEqual(state_of(other), state_of(desk))
        before = state_of(desk)
        for other in (twin, again):
            while other.deeds() and draw.random() < 0.7:
                other.undo()
            other.take(drawn_item(draw, desk.setup))
            other.promise(draw.choice(own_sums(own.world)))
        self.assertEqual(state_of(desk), before)
        shuffled = Desk(desk.setup)
        for item in draw.sample(own.held, len(own.held)):
            shuffled.take(item)
        for name, question in own.alerts:
            shuffled.watch(name, written_question(question))
        for asked in own.promises:
            shuffled.promise(asked)
        self.assertTrue(shuffled == desk)
        for call in (Desk.box, Desk.clash, Desk.only_run, lambda one: [told[:2] for told in one.alerts()]):
            self.assertEqual(call(shuffled), call(desk))
        for _, question in own.alerts:
            text = written_question(question)
            self.assertEqual(shuffled.ask(text), desk.ask(text))
            if few_cases(own.world, question, 20):
                self.assertEqual(shuffled.reasons(text), desk.reasons(text))
        if own.fitting(own.held):
            self.assertEqual(shuffled.report("all", 0), desk.report("all", 0))
            self.assertEqual(shuffled.firing("all", 0, ">=", 2), desk.firing("all", 0, ">=", 2))

    def step(self, draw, desk, own, hidden):
        """One deed on both; its kind and what became of it."""
        word = draw.choice(["take"] * 6 + ["watch", "promise", "forget", "forget", "undo", "undo"])
        if word == "take":
            item = draw.choice(hidden) if draw.random() < 0.93 else drawn_item(draw, desk.setup)
            self.assertEqual(desk.take(item), own.take(item))
        elif word == "watch":
            question = drawn_question(draw, own.world, draw.randint(1, 4), 2)
            name = drawn_name(draw)
            if name not in [known for known, _ in own.alerts] and few_cases(own.world, question):
                text = roughly_written(draw, question)
                self.assertIsNone(desk.watch(name, text))
                own.watch(name, text)
        elif word == "promise":
            asked = draw.choice(own_sums(own.world))
            self.assertEqual(desk.promise(asked), own.promise(asked))
        elif word == "forget":
            kept = draw.choices(own_sums(own.world), k=draw.randint(0, 5)) + draw.choice([[], own.promises])
            return self.forget(desk, own, kept)
        elif own.deeds:
            self.assertEqual(desk.undo(), own.undo())
        else:
            with self.assertRaises(NothingToUndo):
                desk.undo()
        return word

    def forget(self, desk, own, kept):
        expected = own.forget(kept)
        if isinstance(expected, list):
            self.assertEqual(desk.forget(kept), expected)
            return "forget"
        before = state_of(desk)
        with self.assertRaises(NoRun if expected == "clash" else WouldLose) as caught:
            desk.forget(kept)
        if expected == "clash":
            check_clash(self, desk.box(), caught.exception.balance)
        else:
            self.assertEqual(caught.exception.asked, expected)
        self.assertEqual(state_of(desk), before)
        return "clash" if expected == "clash" else "lose"

    def test_against_all_that_could_have_happened(self):
        draw = draws(660)
        words, sinces = [], []
        for setup in small_setups():
            runs = list(all_runs(setup.world))
            happenings = Happenings(setup)
            for _ in range(2):
                desk, own = Desk(setup), OwnDesk(happenings, runs)
                hidden = true_items(draw, setup, draw.choice(runs))
                for _ in range(30):
                    words.append(self.step(draw, desk, own, hidden))
                    self.check_words(draw, desk, own)
                    self.check_answers(draw, desk, own)
                    sinces += [(word, since) for _, word, since in desk.alerts()]
                self.check_twins(draw, desk, own)
                while own.deeds:
                    self.assertEqual(desk.undo(), own.undo())
                    self.check_words(draw, desk, own)
                self.assertTrue(desk == Desk(setup))
        for word in ("take", "watch", "promise", "forget", "undo", "lose", "clash"):
            self.assertGreater(words.count(word), 5, word)
        self.assertGreater(len([1 for word, since in sinces if word == "yes" and since]), 20)
        self.assertGreater(len([1 for word, since in sinces if word == "clash" and since is not None]), 5)
        self.assertGreater(len([1 for word, since in sinces if word == "clash" and since is None]), 5)


def small_setup():
    return Setup(doc_world(), cap=9, samples=[("bad", 3, 0, [])])


class DeedsTest(unittest.TestCase):
    def test_ordinary(self):
        desk = Desk(small_setup())
        self.assertEqual((desk.setup, len(desk), desk.held(), desk.deeds(), desk.alerts(), desk.promises()), (small_setup(), 0, [], [], [], []))
        self.assertIs(desk.take(("count", "ok", 0, 0, 4)), True)
        self.assertIs(desk.take(("count", "ok", 0, 0, 4)), False)
        self.assertIsNone(desk.watch("many", " ((ok.0.0  >= 4) ) "))
        self.assertIs(desk.promise(("ok", 0, 0)), True)
        self.assertIs(desk.promise(("ok", 0, 0)), False)
        self.assertEqual(desk.forget([("ok", 1, 0), ("ok", 0, 0), ("ok", 1, 0)]), [("total", ("ok", 0, 0), 4, 9), ("total", ("ok", 1, 0), 4, 18)])
        self.assertEqual(desk.alerts(), [("many", "yes", 1)])
        self.assertEqual(desk.deeds(), [
            ("take", ("count", "ok", 0, 0, 4)), ("watch", "many", "ok.0.0 >= 4"), ("promise", ("ok", 0, 0)), ("forget", (("ok", 0, 0), ("ok", 1, 0))),
        ])
        self.assertEqual(desk.report("ok", 0), [(0, 4, 9), (1, 0, 9), (2, 0, 9), (3, 0, 9)])
        self.assertEqual(desk.firing("ok", 0, ">=", 4), ["yes", "open", "open", "open"])
        self.assertIs(desk.take(("count", "ok", 0, 0, 4)), True)
        self.assertEqual(desk.undo(), ("take", ("count", "ok", 0, 0, 4)))
        self.assertEqual(desk.undo(), ("forget", (("ok", 0, 0), ("ok", 1, 0))))
        self.assertEqual(desk.held(), [("count", "ok", 0, 0, 4)])

    def test_forget_nothing_and_all(self):
        desk = Desk(small_setup())
        desk.take(("count", "ok", 0, 0, 4))
        self.assertEqual(desk.forget([]), [])
        self.assertEqual((desk.held(), desk.deeds()[-1]), ([], ("forget", ())))
        self.assertEqual(desk.forget(own_sums(doc_world()) * 2), [("total", asked) + (low, high) for asked, low, high in Box(doc_world())])
        self.assertEqual(desk.undo(), ("forget", tuple(own_sums(doc_world()))))
        self.assertEqual(desk.undo(), ("forget", ()))
        self.assertEqual(desk.held(), [("count", "ok", 0, 0, 4)])

    def test_forget_of_promised_sums(self):
        """A promised sum that is told by kept ones may be forgotten itself, as long as its bounds stay."""
        desk = Desk(small_setup())
        for item in [("close", "ok", 0, 0), ("total", ("ok", 1, 0), 3, 7), ("total", ("all", 0, 1), 2, 9)]:
            desk.take(item)
        for asked in (("ok", 0, 1), ("ok", 2, 0)):
            desk.promise(asked)
        before = state_of(desk)
        for kept, lost in (
            ([], ("ok", 0, 1)), ([("ok", 0, 1)], ("ok", 2, 0)), ([("ok", 2, 0)], ("ok", 0, 1)), ([("ok", 1, 0)], ("ok", 0, 1)),
            ([("ok", 0, 0), ("ok", 1, 0)], None), ([("ok", 2, 0), ("ok", 0, 1)], None),
        ):
            if lost is None:
                desk.forget(kept)
                self.assertEqual(desk.report("ok", 0)[1], (1, 3, 7))
                desk.undo()
            else:
                with self.assertRaises(WouldLose) as caught:
                    desk.forget(kept)
                self.assertEqual(caught.exception.asked, lost)
            self.assertEqual(state_of(desk), before)

    def test_the_order_of_lost_promises(self):
        desk = Desk(small_setup())
        desk.take(("total", ("ok", 0, 0), 2, 3))
        for asked in (("ok", 2, 0), ("err", 0, 0), ("ok", 0, 0)):
            desk.promise(asked)
        with self.assertRaises(WouldLose) as caught:
            desk.forget([("err", 0, 0)])
        self.assertEqual(caught.exception.asked, ("ok", 2, 0))
        with self.assertRaises(WouldLose) as caught:
            desk.forget([("ok", 2, 0)])
        self.assertEqual(caught.exception.asked, ("ok", 0, 0))

    def test_a_forgotten_item_is_new_again(self):
        desk = Desk(small_setup())
        desk.take(("close", "err", 1, 1))
        desk.forget([("err", 0, 1)])
        self.assertNotIn(("close", "err", 1, 1), desk)
        self.assertIs(desk.take(("close", "err", 1, 1)), True)
        self.assertEqual(desk.held(), [("total", ("err", 0, 1), 1, 3), ("close", "err", 1, 1)])
        self.assertEqual(len(desk.deeds()), 3)

    def test_undo_behind_a_refused_take(self):
        desk = Desk(small_setup())
        item, other = ("close", "err", 1, 1), ("close", "err", 0, 1)
        desk.take(item)
        desk.take(other)
        self.assertIs(desk.take(item), False)
        self.assertEqual(desk.undo(), ("take", other))
        self.assertEqual(desk.undo(), ("take", item))
        with self.assertRaises(NothingToUndo):
            desk.undo()
        self.assertEqual(state_of(desk), ([], [], [], []))

    def test_twins_behind_an_undo(self):
        desk = Desk(small_setup())
        desk.take(("close", "err", 1, 1))
        desk.forget([("err", 0, 1)])
        desk.watch("w", "err.0.1 = 1")
        desk.undo()
        twin = desk.twin()
        self.assertEqual(twin.undo(), ("forget", (("err", 0, 1),)))
        twin.take(("close", "err", 2, 0))
        self.assertEqual(desk.held(), [("total", ("err", 0, 1), 1, 3)])
        self.assertEqual(desk.undo(), ("forget", (("err", 0, 1),)))
        desk.take(("close", "ok", 0, 0))
        self.assertEqual(twin.held(), [("close", "err", 1, 1), ("close", "err", 2, 0)])
        self.assertEqual(desk.held(), [("close", "err", 1, 1), ("close", "ok", 0, 0)])
        more = twin.twin()
        while more.deeds():
            more.undo()
        self.assertEqual(len(twin.deeds()), 2)

    def test_since(self):
        desk = Desk(small_setup())
        desk.watch("sure", "ok.0.0 <= 9")
        desk.watch("none", "ok.0.0 >= 5")
        desk.watch("two", "ok.0.0 >= 2")
        desk.watch("never", "ok.0.0 = 0")
        desk.watch("neither", "err.0.3 = 2")
        for item, found in (
            (None, ["yes", 0, "open", None, "open", None, "open", None, "open", None]),
            (("close", "err", 3, 0), ["yes", 0, "open", None, "open", None, "open", None, "no", None]),
            (("count", "ok", 0, 0, 2), ["yes", 0, "open", None, "yes", 2, "no", None, "no", None]),
            (("count", "ok", 0, 2, 2), ["yes", 0, "yes", 3, "yes", 2, "no", None, "no", None]),
            (("close", "ok", 0, 1), ["clash", 0, "clash", 3, "clash", 2, "clash", None, "clash", None]),
            (("close", "ok", 2, 1), ["clash", 0, "clash", 3, "clash", 2, "clash", None, "clash", None]),
        ):
            if item is not None:
                desk.take(item)
            self.assertEqual([part for _, word, since in desk.alerts() for part in (word, since)], found)
        self.assertEqual([name for name, _, _ in desk.alerts()], ["sure", "none", "two", "never", "neither"])

    def test_equal_desks(self):
        setup = small_setup()
        one, other = Desk(setup), Desk(small_setup())
        items = [("close", "err", 1, 1), ("count", "ok", 0, 0, 4)]
        for item in items:
            one.take(item)
        for item in items[::-1]:
            other.take(item)
        self.assertTrue(one == other)
        for text in ("ok.0.0 = 4", "err.0.0 = 1 or ok.0.0 = 2"):
            one.watch(f"w{len(one.alerts())}", f"( {text} )")
            other.watch(f"w{len(other.alerts())}", text)
        one.promise(("ok", 0, 0))
        self.assertFalse(one == other)
        other.promise(("ok", 0, 0))
        self.assertTrue(one == other and not one != other)
        for change in (
            lambda desk: desk.take(("close", "err", 2, 1)), lambda desk: desk.watch("x", "ok.0.0 = 4"), lambda desk: desk.promise(("ok", 0, 1)),
            lambda desk: desk.forget([("ok", 0, 0)]), lambda desk: desk.undo(),
        ):
            twin = one.twin()
            change(twin)
            self.assertFalse(twin == other or other == twin)
            self.assertTrue(twin != one and one != twin)
        more, less = Desk(setup), Desk(setup)
        more.take(items[0])
        self.assertFalse(more == less or less == more)
        less.take(items[1])
        self.assertFalse(more == less or less == more)
        less.take(items[0])
        self.assertFalse(more == less or less == more)
        more.take(items[1])
        self.assertTrue(more == less and less == more)
        for order in ((("a1", "ok.0.0 = 4"), ("a2", "ok.0.0 = 5")), (("a2", "ok.0.0 = 5"), ("a1", "ok.0.0 = 4")), (("a1", "ok.0.0 = 5"), ("a2", "ok.0.0 = 5"))):
            desks = [Desk(setup), Desk(setup)]
            for name, text in order:
                desks[0].watch(name, text)
            for name, text in (("a1", "ok.0.0 = 4"), ("a2", "ok.0.0 = 5")):
                desks[1].watch(name, text)
            self.assertEqual(desks[0] == desks[1], order[0] == ("a1", "ok.0.0 = 4"))
        first, second = Desk(setup), Desk(setup)
        first.promise(("ok", 0, 0)), first.promise(("ok", 0, 1)), second.promise(("ok", 0, 1)), second.promise(("ok", 0, 0))
        self.assertFalse(first == second)
        self.assertFalse(Desk(setup) == Desk(Setup(doc_world(), cap=8, samples=[("bad", 3, 0, [])])))
        for thing in (None, 0, [], "desk", setup, setup.world):
            self.assertFalse(Desk(setup) == thing)
            self.assertTrue(Desk(setup) != thing)

    def test_the_same_deeds_are_not_needed(self):
        setup = small_setup()
        one, other = Desk(setup), Desk(setup)
        one.take(("close", "err", 1, 1))
        one.forget([("err", 0, 1)])
        other.take(("total", ("err", 0, 1), 1, 3))
        self.assertTrue(one == other)
        self.assertNotEqual(one.deeds(), other.deeds())

    def test_replay(self):
        setup = small_setup()
        deeds = [
            ("take", ("count", "ok", 0, 0, 4)), ("promise", ("ok", 0, 0)), ("take", ("count", "ok", 0, 0, 4)), ("promise", ("ok", 0, 0)),
            ("watch", "w", "(ok.0.0 >= 1)"), ("forget", (("ok", 2, 0), ("ok", 0, 0), ("ok", 2, 0))),
        ]
        desk = replay(setup, deeds)
        self.assertEqual(desk.deeds(), [deeds[0], deeds[1], ("watch", "w", "ok.0.0 >= 1"), ("forget", (("ok", 0, 0), ("ok", 2, 0)))])
        self.assertEqual(replay(setup, []), Desk(setup))
        self.assertEqual(len(deeds), 6)
        for deed, error in (
            (("take", ("close", "x", 0, 0)), NoSuchSum), (("take", ("close", "ok", 0, -1)), BadItem), (("watch", "w", "ok.0.0 >= 1"), BadName), (("watch", "v", "ok.0.0 >="), BadQuestion),
            (("promise", ("x", 0, 0)), NoSuchSum), (("forget", (("ok", 0, 0), ("ok", 9, 0))), NoSuchSum), (("forget", ()), WouldLose),
        ):
            with self.assertRaises(error):
                replay(setup, deeds + [deed])


class ErrorsTest(unittest.TestCase):
    def desk(self):
        desk = Desk(small_setup())
        desk.take(("count", "ok", 0, 0, 4))
        desk.watch("w", "ok.0.0 >= 5")
        desk.promise(("ok", 0, 0))
        return desk

    def check(self, desk, call, error, **attributes):
        before = state_of(desk)
        with self.assertRaises(error) as caught:
            call()
        for name, value in attributes.items():
            self.assertEqual(getattr(caught.exception, name), value)
        self.assertEqual(state_of(desk), before)

    def test_take(self):
        desk = self.desk()
        for item, error, told in (
            (("close", "x", 0, 0), NoSuchSum, {"asked": ("x", 0, 0)}), (("count", "ok", 4, 0, 99), NoSuchSum, {"asked": ("ok", 0, 4)}),
            (("count", "ok", 0, 0, 10), BadItem, {"item": ("count", "ok", 0, 0, 10)}), (("row", "all", 0, 0, "ok"), BadItem, {"item": ("row", "all", 0, 0, "ok")}),
        ):
            self.check(desk, lambda: desk.take(item), error, **told)

    def test_watch(self):
        desk = self.desk()
        many = " or ".join(["ok.0.0 = 1"] * 33)
        for name, text, error, told in (
            ("w", "nonsense", BadName, {"name": "w"}), ("all", "nonsense", BadName, {"name": "all"}), ("", "ok.0.0 = 1", BadName, {"name": ""}),
            ("v", "ok.0.0 =", BadQuestion, {"place": 2}), ("v", "x.0.0 = 1 and", BadQuestion, {"place": 4}), ("v", "x.0.0 = 1", NoSuchSum, {"asked": ("x", 0, 0)}),
            ("v", f"({many}) and ({many})", TooManyCases, {"many": 2 ** 34}), ("v", f"x.9.9 = 1 and ({many})", NoSuchSum, {"asked": ("x", 9, 9)}),
        ):
            self.check(desk, lambda: desk.watch(name, text), error, **told)
        desk.watch("ok", "ok.0.0 = 1")
        desk.undo()
        desk.undo()
        desk.undo()
        self.assertIsNone(desk.watch("w", "ok.0.0 = 1"))

    def test_ask_and_reasons(self):
        desk = self.desk()
        many = " or ".join(["ok.0.0 = 1"] * 65)
        for text, error, told in (
            ("", BadQuestion, {"place": 0}), ("x.0.0 = 1 or or", BadQuestion, {"place": 4}), ("ok.3.0 = 1", NoSuchSum, {"asked": ("ok", 3, 0)}),
            ("some ok.0 from 0 to 4 >= 1", NoSuchSum, {"asked": ("ok", 0, 4)}), (many, TooManyCases, {}),
        ):
            for call in (desk.ask, desk.reasons):
                self.check(desk, lambda: call(text), error, **told)
        desk.take(("close", "ok", 0, 0))
        for call in (desk.ask, desk.reasons):
            self.check(desk, lambda: call("ok.3.0 = 1"), NoSuchSum, asked=("ok", 3, 0))

    def test_report_and_firing(self):
        desk = self.desk()
        for clash in (False, True):
            for who, level in (("x", 0), ("ok", 3), ("bad", 1), ("ok", -1)):
                self.check(desk, lambda: desk.report(who, level), NoSuchSum, asked=(who, level, 0))
                self.check(desk, lambda: desk.firing(who, level, ">=", 1), NoSuchSum, asked=(who, level, 0))
                for number in (-1, 1000000000):
                    self.check(desk, lambda: desk.firing(who, level, "=", number), BadForm, part=("is", (who, level, 0), "=", number))
            if not clash:
                desk.take(("close", "ok", 0, 0))
        self.check(desk, lambda: desk.report("ok", 0), NoRun)
        self.check(desk, lambda: desk.firing("ok", 0, "=", 999999999), NoRun)
        self.assertIsNone(desk.only_run())

    def test_promise_and_forget(self):
        desk = self.desk()
        self.check(desk, lambda: desk.promise(("x", 0, 0)), NoSuchSum, asked=("x", 0, 0))
        self.check(desk, lambda: desk.forget([("ok", 0, 0), ("ok", 7, 0), ("x", 0, 0)]), NoSuchSum, asked=("ok", 7, 0))
        self.check(desk, lambda: desk.forget([("err", 0, 0)]), WouldLose, asked=("ok", 0, 0))
        desk.take(("close", "ok", 0, 0))
        self.check(desk, lambda: desk.forget([("ok", 0, 0), ("x", 0, 0)]), NoSuchSum, asked=("x", 0, 0))
        self.check(desk, lambda: desk.forget([("err", 0, 0)]), NoRun)
        self.check(desk, lambda: desk.forget([]), NoRun)

    def test_lists_may_change_afterwards(self):
        desk = self.desk()
        before = state_of(desk)
        kept = [("ok", 0, 0)]
        held = desk.forget(kept)
        kept.append(("err", 0, 0))
        held.clear()
        self.assertEqual(desk.held(), [("total", ("ok", 0, 0), 4, 9)])
        self.assertEqual(desk.undo(), ("forget", (("ok", 0, 0),)))
        for call in (desk.held, desk.alerts, desk.promises, desk.deeds, lambda: desk.report("ok", 0), lambda: desk.firing("ok", 0, ">=", 1)):
            call().clear()
        list(desk).clear()
        desk.ask("ok.0.0 >= 4")[1][0].clear()
        desk.reasons("ok.0.0 >= 4").clear()
        self.assertEqual(state_of(desk), before)
        self.assertEqual(desk.reasons("ok.0.0 >= 4"), [("count", "ok", 0, 0, 4)])
        deeds = desk.deeds()
        again = replay(desk.setup, deeds)
        deeds.clear()
        self.assertTrue(again == desk)
        desk.take(("close", "ok", 0, 0))
        desk.clash().clear()
        self.assertEqual(desk.clash(), [("close", "ok", 0, 0), ("count", "ok", 0, 0, 4)])

    def test_only_run(self):
        world = World([("a", 1, 1), ("b", 0, 2)], ticks=2, folds=[2])
        desk = Desk(Setup(world))
        self.assertIsNone(desk.only_run())
        desk.take(("total", ("b", 1, 0), 4, 9))
        desk.only_run()[1].clear()
        self.assertEqual(desk.only_run(), [[1, 1], [2, 2]])
        self.assertEqual(Desk(Setup(World([("a", 3, 3)], ticks=2, folds=[2]))).only_run(), [[3, 3]])


class LargeTest(unittest.TestCase):
    def large_setup(self):
        return Setup(large_world(), cap=1000, samples=[("all", 10, 3, ["a"]), ("trio", 7, 0, [])])

    def hidden_items(self, draw, setup, hidden):
        """Items that are true of a run."""
        found = []
        for asked in draw.sample(own_sums(setup.world), 120):
            value = own_value(setup.world, hidden, asked)
            found.append(("total", asked, max(0, value - draw.randint(0, 400000)), value + draw.randint(0, 400000)))
        for k, name in enumerate("abcdef"):
            for tick in range(16):
                count = hidden[k][tick]
                parts = [1000] * (count // 1000) + ([count % 1000] if count % 1000 else [])
                for serial in draw.sample(range(min(len(parts), 1000)), min(2, len(parts))):
                    found.append(("count", name, tick, serial, parts[serial]))
                if len(parts) <= 1000 and draw.random() < 0.2:
                    found.append(("close", name, tick, len(parts)))
        draw.shuffle(found)
        return found

    def test_200_deeds(self):
        draw = draws(661)
        setup = self.large_setup()
        hidden = [[draw.randint(0, 1000000) for _ in range(16)] for _ in range(6)]
        items = self.hidden_items(draw, setup, hidden)
        desk = Desk(setup)
        for k in range(20):
            asked = draw.choice(own_sums(setup.world))
            value = own_value(setup.world, hidden, asked)
            more = f"row 2 {draw.choice('abcdef')}.1 from 0 to 7 >= {draw.randint(0, 900000)}"
            desk.watch(f"w{k}", f"({'.'.join(map(str, asked))} >= {max(0, value - draw.randint(0, 500000))} or {more})")
        for item in items[:165]:
            desk.take(item)
        for asked in draw.sample(own_sums(setup.world), 10):
            desk.promise(asked)
        self.assertEqual(len(desk.deeds()), 195)
        self.check_alerts(desk)
        kept = desk.promises() + draw.sample(own_sums(setup.world), 50)
        ranges = [desk.report(who, level)[index] for who, level, index in desk.promises()]
        self.assertEqual(len(desk.forget(kept)), len(set(kept)))
        self.assertEqual([desk.report(who, level)[index] for who, level, index in desk.promises()], ranges)
        self.assertTrue(replay(setup, desk.deeds()) == desk)
        self.assertTrue(own_fits(desk.box(), hidden))
        self.assertIsNone(desk.only_run())
        self.check_alerts(desk)
        self.assertEqual(desk.undo()[0], "forget")
        self.assertEqual(desk.held(), items[:165])

    def check_alerts(self, desk):
        items = desk.held()
        alerts = desk.alerts()
        questions = {deed[1]: read_question(deed[2]) for deed in desk.deeds() if deed[0] == "watch"}
        for name, word, since in alerts:
            self.assertEqual(word, answer(desk.box(), questions[name])[0])
            if since is not None:
                self.assertEqual(answer(box_of(desk.setup, items[:since]), questions[name])[0], "yes")
                if since > 0:
                    self.assertNotEqual(answer(box_of(desk.setup, items[:since - 1]), questions[name])[0], "yes")
            else:
                self.assertNotEqual(word, "yes")
        return alerts

    def test_clash_of_60_and_reasons_of_20(self):
        draw = draws(662)
        setup = self.large_setup()
        hidden = [[draw.randint(0, 1000000) for _ in range(16)] for _ in range(6)]
        items = self.hidden_items(draw, setup, hidden)
        desk = Desk(setup)
        for item in items[:59]:
            desk.take(item)
        self.assertIsNone(desk.clash())
        total = own_value(setup.world, hidden, ("all", 4, 0))
        desk.take(("total", ("all", 4, 0), 0, total // 4))
        self.assertEqual(desk.clash(), least_clash(setup, desk.held()))
        few = Desk(setup)
        for item in items[60:80]:
            few.take(item)
        text = f"all.4.0 >= {total // 60} and some a.1 from 0 to 7 >= 5"
        self.assertEqual(few.reasons(text), reasons(setup, few.held(), read_question(text)))
        fixed = Desk(setup)
        for k, name in enumerate("abcdef"):
            fixed.take(("total", (name, 4, 0), 16000000 if k % 2 else 0, 16000000 if k % 2 else 0))
        self.assertEqual(fixed.only_run(), [[1000000 if k % 2 else 0] * 16 for k in range(6)])


if __name__ == "__main__":
    unittest.main()
