"""Questions: their check (points 49 and 50) and whether they hold (points 49 and 51)."""

import unittest

from asking import drawn_question, own_holds, spans, tuples_of
from helpers import all_runs, doc_world, draws, drawn_run, large_world, small_worlds
from surelyseen.errors import BadForm, NoSuchSum
from surelyseen.questions import check_question, holds
from surelyseen.world import World

GOOD = ("is", ("ok", 0, 0), ">=", 1)


class CheckQuestionTest(unittest.TestCase):
    def setUp(self):
        self.world = doc_world()

    def check_good(self, question):
        self.assertIsNone(check_question(self.world, question), question)

    def check_form(self, question, part=None):
        with self.assertRaises(BadForm) as caught:
            check_question(self.world, question)
        self.assertEqual(caught.exception.part, question if part is None else part)

    def check_no_sum(self, question, asked):
        with self.assertRaises(NoSuchSum) as caught:
            check_question(self.world, question)
        self.assertEqual(caught.exception.asked, asked)

    def test_is(self):
        for sign in (">=", "<=", "="):
            for number in (0, 1, 999999999):
                self.check_good(("is", ("all", 2, 0), sign, number))
            for number in (-1, 1000000000):
                self.check_form(("is", ("all", 2, 0), sign, number))
                self.check_form(("is", ("web", 9, 9), sign, number))
        self.check_no_sum(("is", ("bad", 1, 0), "=", 3), ("bad", 1, 0))

    def test_some_and_every(self):
        for word in ("some", "every"):
            for start, stop in ((0, 0), (0, 3), (3, 3), (1, 2)):
                for sign in (">=", "<=", "="):
                    self.check_good((word, "ok", 0, start, stop, sign, 999999999))
            for start, stop in ((-1, 0), (-1, -1), (1, 0), (3, 2), (9, 8)):
                self.check_form((word, "ok", 0, start, stop, ">=", 1))
                self.check_form((word, "web", 7, start, stop, ">=", 1))
            for number in (-1, 1000000000):
                self.check_form((word, "ok", 0, 0, 1, "=", number))
            self.check_no_sum((word, "ok", 0, 0, 4, "=", 1), ("ok", 0, 4))
            self.check_no_sum((word, "ok", 0, 2, 999999999, "=", 1), ("ok", 0, 4))
            self.check_no_sum((word, "ok", 0, 77, 999999999, "=", 1), ("ok", 0, 77))
            self.check_no_sum((word, "bad", 1, 0, 1, "=", 1), ("bad", 1, 0))
            self.check_no_sum((word, "web", 0, 1, 2, "=", 1), ("web", 0, 1))
            self.check_no_sum((word, "all", 3, 0, 0, "=", 1), ("all", 3, 0))
            self.check_no_sum((word, "all", -1, 0, 0, "=", 1), ("all", -1, 0))

    def test_row_and_first(self):
        for word, more in (("row", ()), ("first", (2,))):
            for length in (1, 2, 4, 5, 999999999):
                for sign in (">=", "<="):
                    self.check_good((word, length, "ok", 0, 0, 3, sign, 0) + more)
            for length in (0, -1):
                self.check_form((word, length, "ok", 0, 0, 3, ">=", 0) + more)
            self.check_form((word, 1, "ok", 0, 0, 3, "=", 0) + more)
            for start, stop in ((-1, 3), (3, 2)):
                self.check_form((word, 1, "ok", 0, start, stop, ">=", 0) + more)
            for number in (-1, 1000000000):
                self.check_form((word, 1, "ok", 0, 0, 3, ">=", number) + more)
            self.check_no_sum((word, 9, "ok", 1, 0, 3, ">=", 0) + more, ("ok", 1, 2))
            self.check_no_sum((word, 1, "bad", 1, 0, 3, ">=", 0) + more, ("bad", 1, 0))

    def test_at(self):
        for start, stop in ((0, 3), (1, 2), (2, 2)):
            for at in range(-2, 7):
                question = ("first", 1, "ok", 0, start, stop, ">=", 0, at)
                if start <= at <= stop:
                    self.check_good(question)
                else:
                    self.check_form(question)
        self.check_form(("first", 1, "web", 0, 0, 99, ">=", 0, 100))
        self.check_no_sum(("first", 1, "web", 0, 0, 99, ">=", 0, 99), ("web", 0, 0))

    def test_parts(self):
        for word in ("and", "or"):
            self.check_good((word, (GOOD, GOOD)))
            self.check_good((word, (GOOD,) * 59))
            self.check_form((word, ()))
            self.check_form((word, (GOOD,)))
            self.check_form((word, (("is", ("web", 0, 0), "=", -1),)))
        self.check_good(("not", GOOD))
        self.check_good(("not", ("not", ("or", (GOOD, ("not", GOOD))))))

    def test_order_of_the_tuples(self):
        form = ("is", ("ok", 0, 0), "=", -1)
        other_form = ("every", "ok", 0, 3, 2, "=", 0)
        no_sum = ("is", ("ok", 9, 0), "=", 1)
        self.check_form(("and", (GOOD, form, no_sum)), form)
        self.check_no_sum(("and", (GOOD, no_sum, form)), ("ok", 9, 0))
        self.check_form(("or", (("not", form), other_form)), form)
        self.check_form(("or", (("and", (GOOD, ("not", other_form))), form)), other_form)
        self.check_form(("or", (("and", (form,)), form)), ("and", (form,)))
        self.check_form(("or", (("and", (no_sum,)), form)), ("and", (no_sum,)))
        self.check_no_sum(("or", (("and", (GOOD, no_sum)), ("and", ()))), ("ok", 9, 0))
        self.check_form(("not", ("or", ())), ("or", ()))

    def test_every_place_of_a_fault(self):
        draw = draws(100)
        for world in small_worlds() + [self.world]:
            self.world = world
            for _ in range(30):
                question = drawn_question(draw, world, draw.randint(1, 12))
                self.check_good(question)
                wrong = draw.choice([("is", ("web", 0, 0), "=", -1), ("and", ()), ("is", ("web", 0, 0), "=", 0)])
                place = draw.randrange(len(tuples_of(question)))
                spoilt = replaced(question, place, wrong)
                first = [one for one in tuples_of(spoilt) if one == wrong][0]
                if wrong[-1] == 0:
                    self.check_no_sum(spoilt, ("web", 0, 0))
                else:
                    self.check_form(spoilt, first)

    def test_60_tuples_nested_20_deep(self):
        question = GOOD
        for _ in range(19):
            question = ("and", (GOOD, ("not", GOOD), question))
        self.check_good(question)
        bad = ("is", ("ok", 0, 0), ">=", 1000000000)
        deep = bad
        for _ in range(19):
            deep = ("or", (GOOD, deep))
        self.check_form(deep, bad)


def replaced(question, place, wrong):
    """The question in which the tuple at this place, in the order of the check, is the wrong one."""
    if place == 0:
        return wrong
    place -= 1
    if question[0] == "not":
        return ("not", replaced(question[1], place, wrong))
    parts = []
    for part in question[1]:
        many = len(tuples_of(part))
        parts.append(replaced(part, place, wrong) if 0 <= place < many else part)
        place -= many
    return (question[0], tuple(parts))


class HoldsTest(unittest.TestCase):
    def test_lines(self):
        world = World([("a", 0, 9)], ticks=4, folds=[2, 4])
        table = [[1, 3, 3, 0]]
        for question, expected in (
            (("is", ("a", 0, 1), "=", 3), True), (("is", ("a", 0, 1), ">=", 4), False), (("is", ("a", 1, 1), "<=", 3), True),
            (("is", ("a", 1, 1), "<=", 2), False), (("is", ("a", 2, 0), "=", 7), True), (("is", ("all", 2, 0), ">=", 7), True),
            (("some", "a", 0, 0, 3, "=", 0), True), (("some", "a", 0, 0, 2, "=", 0), False), (("some", "a", 0, 3, 3, "<=", 0), True),
            (("every", "a", 0, 1, 2, "=", 3), True), (("every", "a", 0, 0, 2, ">=", 2), False), (("every", "a", 1, 0, 1, ">=", 3), True),
            (("row", 2, "a", 0, 0, 3, ">=", 3), True), (("row", 3, "a", 0, 0, 3, ">=", 3), False), (("row", 3, "a", 0, 0, 3, ">=", 1), True),
            (("row", 3, "a", 0, 0, 1, ">=", 1), False), (("row", 1, "a", 0, 3, 3, ">=", 1), False), (("row", 999999999, "a", 0, 0, 3, ">=", 0), False),
            (("first", 2, "a", 0, 0, 3, ">=", 1, 1), True), (("first", 2, "a", 0, 0, 3, ">=", 1, 2), False),
            (("first", 2, "a", 0, 1, 3, ">=", 1, 2), True), (("first", 2, "a", 0, 1, 3, ">=", 1, 1), False),
            (("first", 2, "a", 0, 0, 3, ">=", 2, 2), True), (("first", 1, "a", 0, 0, 3, "<=", 0, 3), True), (("first", 5, "a", 0, 0, 3, "<=", 9, 3), False),
        ):
            self.assertIs(holds(world, table, question), expected, question)
            self.assertIs(holds(world, table, ("not", question)), not expected)
            self.assertIs(holds(world, table, ("and", (question, question))), expected)
            self.assertIs(holds(world, table, ("or", (question, ("not", question)))), True)

    def test_all_tables_of_small_worlds(self):
        draw = draws(101)
        for world in small_worlds():
            runs = list(all_runs(world))
            for _ in range(25):
                question = drawn_question(draw, world, draw.randint(1, 10))
                for run in draw.sample(runs, min(len(runs), 40)):
                    self.assertIs(holds(world, run, question), own_holds(world, run, question), question)

    def test_every_first(self):
        world = World([("a", 0, 1)], ticks=8, folds=[8])
        for run in all_runs(world):
            for length in (1, 2, 3, 8):
                for start, stop in ((0, 7), (2, 6), (3, 3)):
                    for at in range(start, stop + 1):
                        question = ("first", length, "a", 0, start, stop, ">=", 1, at)
                        self.assertIs(holds(world, run, question), own_holds(world, run, question))
                    row = ("row", length, "a", 0, start, stop, "<=", 0)
                    self.assertIs(holds(world, run, row), own_holds(world, run, row))

    def test_tables_that_are_no_runs(self):
        world = World([("a", 2, 3)], ticks=2, folds=[2])
        self.assertIs(holds(world, [[-5, 99]], ("is", ("a", 1, 0), "=", 94)), True)
        self.assertIs(holds(world, [[-5, 99]], ("every", "a", 0, 0, 1, ">=", 2)), False)

    def test_large(self):
        draw = draws(102)
        world = large_world()
        for _ in range(20):
            table = drawn_run(draw, world)
            question = drawn_question(draw, world, 60, 1000000)
            self.assertIs(holds(world, table, question), own_holds(world, table, question))

    def test_the_question_is_checked_first(self):
        world = doc_world()
        with self.assertRaises(BadForm):
            holds(world, [[0] * 4] * 3, ("is", ("web", 0, 0), "=", -1))
        with self.assertRaises(NoSuchSum):
            holds(world, [[0] * 4] * 3, ("or", (("is", ("ok", 0, 0), "=", 0), ("is", ("web", 0, 0), "=", 0))))

    def test_spans_of_the_helpers(self):
        self.assertEqual(dict(spans(doc_world()))["bad", 0], 4)


if __name__ == "__main__":
    unittest.main()
