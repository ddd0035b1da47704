"""The cases of a question (points 52 and 53)."""

import unittest

from asking import drawn_question, meets, own_cases, own_holds, own_meeting_sets, tuples_of
from helpers import all_runs, doc_world, draws, large_world, small_worlds
from surelyseen.cases import case_count, cases
from surelyseen.errors import BadForm, NoSuchSum, TooManyCases
from surelyseen.world import World

A = ("a", 0, 0)
B = ("a", 0, 1)
C = ("a", 0, 2)


def line_world():
    return World([("a", 0, 3)], ticks=16, folds=[2, 4, 8, 16])


class CasesTest(unittest.TestCase):
    def setUp(self):
        self.world = line_world()

    def check(self, question, holding, failing):
        for side, expected in ((True, holding), (False, failing)):
            self.assertEqual(cases(self.world, question, holding=side), expected, question)
            self.assertEqual(case_count(self.world, question, holding=side), len(expected))
            self.assertEqual(cases(self.world, ("not", question), holding=not side), expected)

    def test_by_keyword_only(self):
        for call in (cases, case_count):
            with self.assertRaises(TypeError):
                call(self.world, ("is", A, "=", 1), True)

    def test_is(self):
        self.check(("is", A, ">=", 2), [[(A, 2, None)]], [[(A, None, 1)]])
        self.check(("is", A, "<=", 2), [[(A, None, 2)]], [[(A, 3, None)]])
        self.check(("is", A, "=", 2), [[(A, 2, 2)]], [[(A, None, 1)], [(A, 3, None)]])
        self.check(("is", A, ">=", 0), [[(A, 0, None)]], [[(A, None, -1)]])
        self.check(("is", A, "<=", 999999999), [[(A, None, 999999999)]], [[(A, 1000000000, None)]])

    def test_or_and_and(self):
        one, two = ("is", A, ">=", 2), ("is", B, "=", 1)
        self.check(
            ("or", (one, two)), [[(A, 2, None)], [(B, 1, 1)]], [[(A, None, 1), (B, None, 0)], [(A, None, 1), (B, 2, None)]],
        )
        self.check(
            ("and", (two, one)), [[(B, 1, 1), (A, 2, None)]], [[(B, None, 0)], [(B, 2, None)], [(A, None, 1)]],
        )
        self.check(
            ("or", (two, ("not", two))), [[(B, 1, 1)], [(B, None, 0)], [(B, 2, None)]],
            [[(B, None, 0), (B, 1, 1)], [(B, 2, None), (B, 1, 1)]],
        )

    def test_the_last_part_changes_fastest(self):
        parts = (("is", A, "=", 1), ("is", B, "=", 1), ("is", C, "=", 1))
        ends = [[(asked, None, 0), (asked, 2, None)] for asked in (A, B, C)]
        expected = [[one, two, three] for one in ends[0] for two in ends[1] for three in ends[2]]
        self.assertEqual(cases(self.world, ("or", parts), holding=False), expected)
        self.assertEqual(cases(self.world, ("some", "a", 0, 0, 2, "=", 1), holding=False), expected)

    def test_some_and_every(self):
        self.check(
            ("some", "a", 0, 1, 2, ">=", 2), [[(B, 2, None)], [(C, 2, None)]], [[(B, None, 1), (C, None, 1)]],
        )
        self.check(
            ("every", "a", 0, 1, 2, "=", 2), [[(B, 2, 2), (C, 2, 2)]], [[(B, None, 1)], [(B, 3, None)], [(C, None, 1)], [(C, 3, None)]],
        )
        self.check(("some", "a", 0, 0, 0, "<=", 1), [[(A, None, 1)]], [[(A, 2, None)]])
        self.check(("every", "a", 0, 0, 0, "=", 1), [[(A, 1, 1)]], [[(A, None, 0)], [(A, 2, None)]])

    def test_the_example(self):
        def no(window):
            return (("a", 0, window), None, 0)

        def yes(window):
            return (("a", 0, window), 1, None)

        self.check(
            ("row", 2, "a", 0, 0, 3, ">=", 1), [[yes(0), yes(1)], [yes(1), yes(2)], [yes(2), yes(3)]],
            [[no(0), no(2)], [no(1), no(2)], [no(1), no(3)]],
        )

    def test_row(self):
        self.check(("row", 1, "a", 0, 0, 1, "<=", 0), [[(A, None, 0)], [(B, None, 0)]], [[(A, 1, None), (B, 1, None)]])
        self.check(("row", 2, "a", 0, 0, 1, "<=", 0), [[(A, None, 0), (B, None, 0)]], [[(A, 1, None)], [(B, 1, None)]])
        for length in (3, 4, 999999999):
            self.check(("row", length, "a", 0, 0, 1, "<=", 0), [], [[]])

    def test_first(self):
        def no(window):
            return (("a", 0, window), None, 0)

        def yes(window):
            return (("a", 0, window), 1, None)

        def first(length, start, stop, at):
            return ("first", length, "a", 0, start, stop, ">=", 1, at)

        self.check(first(2, 1, 9, 1), [], [[]])
        self.check(first(999999999, 0, 9, 9), [], [[]])
        self.check(first(2, 1, 9, 2), [[yes(1), yes(2)]], [[no(1)], [no(2)]])
        self.check(first(2, 1, 9, 3), [[no(1), yes(2), yes(3)]], [[no(2)], [no(3)], [yes(1), yes(2)]])
        self.check(first(2, 1, 9, 4), [[no(2), yes(3), yes(4)]], [[no(3)], [no(4)], [yes(1), yes(2)], [yes(2), yes(3)]])
        self.check(
            first(2, 1, 9, 5), [[no(1), no(3), yes(4), yes(5)], [no(2), no(3), yes(4), yes(5)]],
            [[no(4)], [no(5)], [yes(1), yes(2)], [yes(2), yes(3)], [yes(3), yes(4)]],
        )
        self.check(first(1, 0, 3, 0), [[yes(0)]], [[no(0)]])
        self.check(first(1, 0, 3, 2), [[no(0), no(1), yes(2)]], [[no(2)], [yes(0)], [yes(1)]])

    def test_every_row_and_first(self):
        for start in (0, 2):
            for stop in range(start, start + 9):
                for length in (1, 2, 3, 4, stop - start + 1, stop - start + 2, 999999999):
                    questions = [("row", length, "a", 0, start, stop, ">=", 2)]
                    questions += [("first", length, "a", 0, start, stop, "<=", 1, at) for at in range(start, stop + 1)]
                    for question in questions:
                        self.check(question, own_cases(question, True), own_cases(question, False))

    def test_counts_of_long_rows(self):
        for windows in range(1, 14):
            for length in range(1, windows + 2):
                question = ("row", length, "a", 0, 0, windows - 1, ">=", 2)
                self.assertEqual(case_count(self.world, question, holding=False), len(own_meeting_sets(0, windows - 1, length)))

    def test_drawn_questions(self):
        draw = draws(110)
        built = 0
        for world in small_worlds() + [doc_world(), self.world]:
            self.world = world
            for _ in range(40):
                question = drawn_question(draw, world, draw.randint(1, 7))
                for side in (True, False):
                    many = case_count(world, question, holding=side)
                    if many > 2000:
                        continue
                    expected = own_cases(question, side)
                    self.assertEqual(many, len(expected))
                    if many > 64:
                        self.check_too_many(question, side, many)
                    else:
                        built += 1
                        self.assertEqual(cases(world, question, holding=side), expected)
        self.assertGreater(built, 400)

    def test_a_table_meets_a_case_exactly_if_the_question_holds(self):
        draw = draws(111)
        for world in small_worlds():
            runs = list(all_runs(world))
            for _ in range(15):
                question = drawn_question(draw, world, draw.randint(1, 5))
                if max(case_count(world, question, holding=side) for side in (True, False)) > 64:
                    continue
                sides = [cases(world, question, holding=side) for side in (True, False)]
                for run in draw.sample(runs, min(len(runs), 30)):
                    held = own_holds(world, run, question)
                    self.assertEqual([any(meets(world, run, case) for case in side) for side in sides], [held, not held])

    def check_too_many(self, question, side, many):
        with self.assertRaises(TooManyCases) as caught:
            cases(self.world, question, holding=side)
        self.assertEqual(caught.exception.many, many)

    def test_64_and_65_cases(self):
        for question, side, many in (
            (("row", 3, "a", 0, 0, 12, ">=", 1), False, 64), (("row", 2, "a", 0, 0, 14, ">=", 1), False, 65),
            (("some", "a", 0, 0, 5, "=", 1), False, 64), (("first", 3, "a", 0, 0, 15, ">=", 1, 15), True, 46),
            (("or", (("some", "a", 0, 0, 5, "=", 1),) * 2), False, 4096), (("or", (("every", "a", 0, 0, 15, ">=", 1),) * 64), True, 64),
            (("or", (("every", "a", 0, 0, 15, ">=", 1),) * 65), True, 65), (("and", (("is", A, ">=", 1),) * 65), False, 65),
            (("and", (("some", "a", 0, 0, 4, "=", 1), ("some", "a", 0, 0, 12, "=", 1))), True, 65),
        ):
            self.assertEqual(case_count(self.world, question, holding=side), many)
            self.assertEqual(case_count(self.world, ("not", question), holding=not side), many)
            if many > 64:
                self.check_too_many(question, side, many)
                self.check_too_many(("not", question), not side, many)
            else:
                self.assertEqual(len(cases(self.world, question, holding=side)), many)
                self.assertEqual(cases(self.world, question, holding=side), own_cases(question, side))

    def test_counts_far_beyond_64(self):
        some = ("some", "a", 0, 0, 15, "=", 1)
        self.assertEqual(case_count(self.world, some, holding=False), 2 ** 16)
        question = ("or", (some,) * 59)
        self.assertEqual(case_count(self.world, question, holding=False), 2 ** 944)
        self.assertEqual(case_count(self.world, question, holding=True), 16 * 59)
        self.check_too_many(question, False, 2 ** 944)
        self.check_too_many(question, True, 944)
        row = ("row", 3, "a", 0, 0, 15, ">=", 1)
        question = ("not", ("or", (row,) * 58))
        self.assertEqual(case_count(self.world, question, holding=True), 177 ** 58)
        self.check_too_many(question, True, 177 ** 58)

    def test_none_beside_very_many(self):
        """A side without cases is built at once, whatever its parts have."""
        none = ("row", 17, "a", 0, 0, 15, ">=", 1)
        many = ("not", ("or", (("some", "a", 0, 0, 15, "=", 1),) * 50))
        for parts in ((none, many), (many, none), (many, ("not", ("or", (("not", none), many))), many)):
            self.assertEqual(case_count(self.world, ("and", parts), holding=True), 0)
            self.assertEqual(cases(self.world, ("and", parts), holding=True), [])
        self.assertEqual(cases(self.world, ("or", (("and", (none, many)), ("is", A, "=", 1))), holding=True), [[(A, 1, 1)]])

    def test_60_tuples_nested_20_deep(self):
        draw = draws(112)
        question = ("is", A, "=", 1)
        count = {True: 1, False: 2}
        for depth in range(19):
            word = draw.choice(["and", "or"])
            question = (word, (question, ("not", ("is", B, "=", 2)), ("is", C, "<=", 3)))
            other = {True: [count[True], 2, 1], False: [count[False], 1, 1]}
            count = {}
            for side in (True, False):
                product = other[side][0] * other[side][1] * other[side][2]
                count[side] = sum(other[side]) if (word == "or") == side else product
            if depth % 6 == 5:
                question = ("not", question)
                count = {True: count[False], False: count[True]}
        self.assertGreater(len(tuples_of(question)), 60)
        for side in (True, False):
            self.assertEqual(case_count(self.world, question, holding=side), count[side])

    def test_the_question_is_checked_first(self):
        form = ("is", ("web", 0, 0), "=", -1)
        wide = ("some", "a", 0, 0, 15, "=", 1)
        for call in (cases, case_count):
            for side in (True, False):
                with self.assertRaises(BadForm) as caught:
                    call(self.world, ("or", (wide, form)), holding=side)
                self.assertEqual(caught.exception.part, form)
                with self.assertRaises(NoSuchSum):
                    call(self.world, ("or", (wide, ("is", ("web", 0, 0), "=", 1))), holding=side)

    def test_large_world(self):
        draw = draws(113)
        world = large_world()
        for _ in range(40):
            question = drawn_question(draw, world, draw.randint(1, 60), 1000000)
            for side in (True, False):
                many = case_count(world, question, holding=side)
                if many <= 64:
                    self.assertEqual(cases(world, question, holding=side), own_cases(question, side) if many else [])

    def test_returned_lists_may_change(self):
        question = ("or", (("is", A, "=", 1), ("is", B, "=", 1)))
        for side in (True, False):
            expected = cases(self.world, question, holding=side)
            found = cases(self.world, question, holding=side)
            found[0].append((C, 0, 0))
            self.assertEqual(found[1:], expected[1:])
            found.clear()
            self.assertEqual(cases(self.world, question, holding=side), expected)


if __name__ == "__main__":
    unittest.main()
