"""Answers to questions and what shows them (points 1, 2, 54 and 55)."""

import unittest

from asking import drawn_question, own_cases, own_holds
from helpers import Listing, check_clash, doc_world, drawn_box, draws, fitting_box, large_world, own_bound, own_fits
from helpers import own_sums, own_weights, small_worlds
from surelyseen.answers import answer, shows
from surelyseen.boxes import Box
from surelyseen.cases import case_count
from surelyseen.errors import BadForm, NoSuchSum, TooManyCases
from surelyseen.world import World


def narrowed(box, demands):
    for asked, least, greatest in demands:
        box = box.narrowed(asked, least=least, greatest=greatest)
    return box


def own_clash(box, balance):
    """Whether a balance shows a clash, by adding numbers; one that names what does not exist shows nothing."""
    if any(asked not in own_sums(box.world) for asked, _ in balance):
        return False
    return not any(any(row) for row in own_weights(box.world, balance)) and own_bound(box, balance, 0) > 0


def own_run_fits(box, table):
    lengths = [len(counts) for counts in table]
    return lengths == [box.world.ticks] * len(box.world.streams) and own_fits(box, table)


def own_shows(box, question, given):
    """Whether a tuple has the properties of its word, told step by step."""
    word = given[0]
    if word == "clash":
        return own_clash(box, given[1])
    if word in ("yes", "no"):
        against = own_cases(question, word == "no")
        return own_run_fits(box, given[1]) and len(given[2]) == len(against) and all(
            own_clash(narrowed(box, demands), balance) for demands, balance in zip(against, given[2])
        )
    if word == "open":
        return own_run_fits(box, given[1]) and own_run_fits(box, given[2]) and (
            own_holds(box.world, given[1], question) and not own_holds(box.world, given[2], question)
        )
    return False


def small_sides(world, question):
    return max(case_count(world, question, holding=side) for side in (True, False)) <= 64


class AnswerTest(unittest.TestCase):
    def check_answer(self, box, question, expected):
        """What `answer` returns, if this is its word."""
        kept = list(box)
        found = answer(box, question)
        self.assertEqual(list(box), kept)
        self.assertIsInstance(found, tuple)
        self.assertEqual((found[0], len(found)), (expected, 2 if expected == "clash" else 3), question)
        self.assertTrue(own_shows(box, question, found))
        self.assertIs(shows(box, question, found), True)
        if expected == "clash":
            check_clash(self, box, found[1])
        if expected in ("yes", "no"):
            self.assertIsInstance(found[2], list)
            for demands, balance in zip(own_cases(question, expected == "no"), found[2]):
                check_clash(self, narrowed(box, demands), balance)
        return found

    def test_against_all_runs(self):
        draw = draws(120)
        words = []
        for world in small_worlds():
            listing = Listing(world)
            for many in (0, 1, 2, 3, 4, 6, 8, 10):
                for tuples in (1, 1, 1, 2, 3, 5, 8):
                    box = drawn_box(draw, world, many, 1)
                    question = drawn_question(draw, world, tuples)
                    if small_sides(world, question):
                        words.append(self.check_listed(listing, box, question))
        for word in ("yes", "no", "open", "clash"):
            self.assertGreater(words.count(word), 10)

    def check_listed(self, listing, box, question):
        verdicts = {own_holds(box.world, run, question) for run, _ in listing.fitting(box)}
        word = {(): "clash", (True,): "yes", (False,): "no", (False, True): "open"}[tuple(sorted(verdicts))]
        self.check_answer(box, question, word)
        return word

    def test_around_one_run(self):
        draw = draws(121)
        for world in small_worlds():
            listing = Listing(world)
            for share in (0.2, 0.5, 0.8):
                for tuples in (1, 2, 4, 7):
                    box, _ = fitting_box(draw, world, share, 1)
                    question = drawn_question(draw, world, tuples)
                    if small_sides(world, question):
                        self.check_listed(listing, box, question)

    def test_the_example(self):
        world = World([("a", 0, 3)], ticks=4, folds=[2, 4])
        question = ("row", 2, "a", 0, 0, 3, ">=", 1)
        self.check_answer(Box(world).narrowed(("a", 1, 0), least=4, greatest=4), question, "yes")
        self.check_answer(Box(world).narrowed(("a", 1, 0), least=3, greatest=4), question, "open")
        self.check_answer(Box(world).narrowed(("a", 2, 0), greatest=1), question, "no")
        self.check_answer(Box(world).narrowed(("a", 2, 0), least=4, greatest=3), question, "clash")

    def test_sure_without_any_single_sum(self):
        """Some window has enough, although none of them surely has."""
        world = World([("a", 0, 9)], ticks=2, folds=[2])
        box = Box(world).narrowed(("a", 1, 0), least=5)
        self.check_answer(box, ("some", "a", 0, 0, 1, ">=", 3), "yes")
        self.check_answer(box, ("is", ("a", 0, 0), ">=", 3), "open")
        self.check_answer(box, ("every", "a", 0, 0, 1, "<=", 2), "no")

    def test_sides_without_cases(self):
        world = doc_world()
        never = ("row", 5, "ok", 0, 0, 3, ">=", 0)
        self.assertEqual(self.check_answer(Box(world), never, "no")[2], [])
        self.assertEqual(self.check_answer(Box(world), ("not", never), "yes")[2], [])
        late = ("first", 3, "ok", 0, 1, 3, ">=", 0, 2)
        self.assertEqual(self.check_answer(Box(world), late, "no")[2], [])
        self.check_answer(Box(world).narrowed(("ok", 0, 0), least=3, greatest=2), never, "clash")

    def test_64_and_65_cases(self):
        world = World([("a", 0, 3)], ticks=16, folds=[16])
        clash = Box(world).narrowed(("a", 0, 0), least=1, greatest=0)
        full = ("row", 3, "a", 0, 0, 12, ">=", 0)
        self.check_answer(Box(world), full, "yes")
        self.check_answer(Box(world).narrowed(("a", 1, 0), least=43), ("row", 3, "a", 0, 0, 12, ">=", 2), "yes")
        self.check_answer(Box(world), ("not", full), "no")
        self.check_answer(clash, full, "clash")
        some = ("some", "a", 0, 0, 15, "=", 1)
        for question, many in (
            (("row", 2, "a", 0, 0, 14, ">=", 1), 65), (("not", ("row", 2, "a", 0, 0, 14, ">=", 1)), 65), (some, 65536),
            (("or", (("row", 2, "a", 0, 0, 14, ">=", 1), some)), 65 * 65536), (("and", (some,) * 3), 3 * 65536),
            (("and", (some, ("every", "a", 0, 0, 15, "=", 1))), 65536 + 32),
        ):
            for box in (Box(world), clash):
                for call in (answer, lambda *given: shows(*given, ("clash", [])), lambda *given: shows(*given, ("what",))):
                    with self.assertRaises(TooManyCases) as caught:
                        call(box, question)
                    self.assertEqual(caught.exception.many, many)

    def test_errors_in_their_order(self):
        world = World([("a", 0, 3)], ticks=16, folds=[16])
        wide = ("some", "a", 0, 0, 15, "=", 1)
        form = ("is", ("web", 0, 0), "=", -1)
        no_sum = ("is", ("web", 0, 0), "=", 1)
        for box in (Box(world), Box(world).narrowed(("a", 0, 0), least=1, greatest=0)):
            for call in (answer, lambda *given: shows(*given, ("clash", [(("web", 0, 0), 1)])), lambda *given: shows(*given, ("",))):
                with self.assertRaises(BadForm) as caught:
                    call(box, ("or", (wide, form, no_sum)))
                self.assertEqual(caught.exception.part, form)
                with self.assertRaises(NoSuchSum) as caught:
                    call(box, ("or", (wide, no_sum, form)))
                self.assertEqual(caught.exception.asked, ("web", 0, 0))

    def test_large_worlds(self):
        draw = draws(122)
        words = []
        for low, high in ((0, 1000000), (0, 3)):
            world = large_world(low, high)
            for share, slack in ((0, 0), (0.3, 1000), (1, 2), (0.7, 300000)):
                box, hidden = fitting_box(draw, world, share, slack)
                for _ in range(6):
                    question = drawn_question(draw, world, draw.randint(1, 30), draw.choice([3, high, 6 * high]))
                    if small_sides(world, question):
                        words.append(answer(box, question)[0])
                        self.check_answer(box, question, words[-1])
                        self.assertNotEqual(words[-1], "no" if own_holds(world, hidden, question) else "yes")
        self.assertEqual(set(words), {"yes", "no", "open"})

    def test_60_tuples_nested_20_deep(self):
        world = large_world()
        box = Box(world).narrowed(("all", 4, 0), least=90000000)
        question = ("some", "all", 0, 0, 15, ">=", 5625000)
        for depth in range(19):
            question = ("and", (question, ("not", ("is", ("all", 3, depth % 2), "<=", depth))))
        self.check_answer(box, question, "yes")
        self.check_answer(box, ("not", question), "no")
        self.check_answer(box, ("and", (question, ("is", ("a", 0, 0), ">=", 1))), "open")

    def test_returned_lists_may_change(self):
        world = World([("a", 0, 3)], ticks=4, folds=[2, 4])
        question = ("row", 2, "a", 0, 0, 3, ">=", 1)
        for box in (
            Box(world).narrowed(("a", 1, 0), least=4), Box(world), Box(world).narrowed(("a", 2, 0), greatest=1),
            Box(world).narrowed(("a", 2, 0), least=4, greatest=3),
        ):
            expected = answer(box, question)
            for entry in answer(box, question)[1:]:
                entry[0] = 99
                entry.clear()
            found = answer(box, question)
            self.assertEqual(found, expected)
            if found[0] in ("yes", "no"):
                found[2][0].clear()
                found[1][0].clear()
                self.assertEqual(answer(box, question), expected)


class ShowsTest(unittest.TestCase):
    def check(self, box, question, given):
        expected = own_shows(box, question, given)
        self.assertIs(shows(box, question, given), expected, (question, given))
        return expected

    def test_spoilt_answers(self):
        draw = draws(123)
        verdicts = []
        for world in small_worlds()[:5] + [doc_world()]:
            for many in (0, 2, 4, 6):
                for tuples in (1, 1, 2, 4):
                    box = drawn_box(draw, world, many, 1)
                    question = drawn_question(draw, world, tuples)
                    if small_sides(world, question) and (case_count(world, question, holding=True) < 30):
                        for given in self.spoilt(draw, world, answer(box, question)):
                            verdicts.append(self.check(box, question, given))
        self.assertGreater(verdicts.count(True), 100)
        self.assertGreater(verdicts.count(False), 500)

    def spoilt(self, draw, world, given):
        asked = draw.choice(own_sums(world))
        found = [given]
        if given[0] == "clash":
            balance = given[1]
            for changed in (balance[1:], balance + [(asked, 1)], balance[::-1], [], balance * 2, [(one, 7 * many) for one, many in balance],
                            balance + [(("web", 0, 0), 1)], [(("bad", 9, 0), 1)], [(one, -many) for one, many in balance],
                            balance + [(asked, 5), (asked, -5)]):
                found.append(("clash", changed))
            table = [[low] * world.ticks for _, low, _ in world.streams]
            return found + [("yes", table, [balance]), ("no", table, [balance]), ("open", table, table), ("yes", table, [])]
        tables = [given[1], [], given[1][1:], [counts[1:] for counts in given[1]], [[-1] * world.ticks] * len(world.streams)]
        if given[0] == "open":
            other = given[2]
            found += [("open", other, given[1])] + [("open", table, other) for table in tables] + [("open", given[1], table) for table in tables]
            return found + [("yes", given[1], []), ("no", other, []), ("clash", []), ("maybe", given[1], other)]
        balances = given[2]
        found += [(word, table, balances) for table in tables for word in ("yes", "no")]
        for place in range(len(balances)):
            found.append((given[0], given[1], balances[:place] + balances[place + 1:]))
            for balance in ([], balances[place][1:], balances[place] * 2, [(("web", 0, 0), 1)] + balances[place], balances[place] + [(asked, 1)]):
                found.append((given[0], given[1], balances[:place] + [balance] + balances[place + 1:]))
        found += [(given[0], given[1], balances[::-1]), (given[0], given[1], balances + [[]]), (given[0], given[1], [])]
        return found + [("open", given[1], given[1]), ("clash", balances[0] if balances else []), ("", given[1], balances), ("Yes", given[1], balances)]

    def test_other_words(self):
        box = Box(doc_world())
        question = ("is", ("ok", 0, 0), ">=", 0)
        run = [[0] * 4] * 3
        for word in ("", "maybe", "Yes", "YES", "yes ", "opened", "clashes"):
            self.assertIs(shows(box, question, (word, run, [])), False)
            self.assertIs(shows(box, question, (word,)), False)

    def test_a_clash_with_any_coefficients(self):
        box = Box(doc_world()).narrowed(("bad", 0, 0), least=5).narrowed(("err", 0, 0), greatest=1)
        question = ("is", ("ok", 0, 0), ">=", 0)
        balance = [(("bad", 0, 0), 4), (("err", 0, 0), -4), (("slow", 0, 0), -4)]
        self.assertIs(shows(box, question, ("clash", balance)), True)
        self.assertIs(shows(box, question, ("clash", balance + [(("all", 2, 0), 3), (("all", 2, 0), -3)])), False)
        self.assertIs(shows(box, question, ("clash", balance[:2])), False)
        self.assertIs(shows(Box(doc_world()), question, ("clash", balance)), False)

    def test_balances_that_name_no_sum(self):
        world = doc_world()
        clash = Box(world).narrowed(("ok", 0, 0), least=2, greatest=1)
        question = ("is", ("ok", 0, 0), ">=", 10)
        pair = [(("ok", 0, 0), 1), (("ok", 0, 0), -1)]
        self.assertIs(shows(clash, question, ("clash", pair)), True)
        for wrong in (("web", 0, 0), ("bad", 1, 0), ("ok", 0, 4), ("ok", -1, 0)):
            self.assertIs(shows(clash, question, ("clash", pair + [(wrong, 1)])), False)
            self.assertIs(shows(clash, question, ("clash", [(wrong, 1), (wrong, -1)] + pair)), False)
            run = [[0] * 4] * 3
            self.assertIs(shows(Box(world), question, ("no", run, [pair])), True)
            self.assertIs(shows(Box(world), question, ("no", run, [pair + [(wrong, 1), (wrong, -1)]])), False)

    def test_the_word_decides_which_side(self):
        box = Box(World([("a", 0, 3)], ticks=2, folds=[2])).narrowed(("a", 1, 0), least=4)
        question = ("some", "a", 0, 0, 1, ">=", 2)
        word, run, balances = answer(box, question)
        self.assertEqual((word, len(balances)), ("yes", 1))
        self.assertIs(shows(box, question, ("yes", run, balances)), True)
        self.assertIs(shows(box, question, ("no", run, balances)), False)
        self.assertIs(shows(box, ("not", question), ("no", run, balances)), True)

    def test_large_papers(self):
        draw = draws(124)
        world = large_world()
        box, hidden = fitting_box(draw, world, 0.9, 100)
        question = ("row", 3, "all", 0, 0, 12, "<=", 6000000)
        given = answer(box, question)
        self.assertEqual((given[0], len(given[2])), ("yes", 64))
        self.assertIs(shows(box, question, ("yes", hidden, given[2])), True)
        self.assertIs(shows(box, question, ("yes", hidden, given[2][::-1])), own_shows(box, question, ("yes", hidden, given[2][::-1])))
        zeros = [(asked, sign) for asked in draw.sample([one for one, low, high in box if low == high] or [("a", 0, 0)], 1) for sign in (1, -1)]
        padded = [balance + zeros * 100 for balance in given[2]]
        self.assertIs(shows(box, question, ("yes", hidden, padded)), own_shows(box, question, ("yes", hidden, padded)))


if __name__ == "__main__":
    unittest.main()
