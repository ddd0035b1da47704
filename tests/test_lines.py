"""Lines: one stream watched live (points 68 to 71)."""

import itertools
import unittest

from helpers import draws
from surelyseen.answers import answer
from surelyseen.errors import BadMachine
from surelyseen.gathering import box_of
from surelyseen.knowing import least_rule
from surelyseen.lines import Line, course_items, line_machine, seen
from surelyseen.machines import Machine, sure
from surelyseen.rules import judge
from surelyseen.setups import Setup
from surelyseen.world import World


def every_line():
    """Every line that there is."""
    for high in (1, 2, 3):
        for limit in range(1, high + 1):
            for row in (1, 2, 3, 4):
                for fold, late in ((0, False), (0, True), (2, False), (3, False), (4, False)):
                    yield Line(high, limit=limit, row=row, fold=fold, late=late)


def own_triples(line):
    nows = [None, *range(line.high + 1)]
    befores = [None, *range(line.high + 1)] if line.late else [None]
    totals = [None, *range(line.high * line.fold + 1)] if line.fold else [None]
    return tuple(itertools.product(nows, befores, totals))


def own_can_be_seen(line, tick, letter):
    _, before, total = own_triples(line)[letter]
    ends = line.fold and tick % line.fold == line.fold - 1
    return (tick > 0 or before is None) and (ends or total is None)


def own_shows(line, counts, tick, letter):
    """Whether the counts show the triple at the tick."""
    now, before, total = own_triples(line)[letter]
    if not own_can_be_seen(line, tick, letter) or now not in (None, counts[tick]):
        return False
    if before is not None and before != counts[tick - 1]:
        return False
    return total is None or total == sum(counts[tick + 1 - line.fold:tick + 1])


def own_matter(line, counts):
    marks = "".join("1" if count >= line.limit else "0" for count in counts)
    return "1" * line.row in marks


def own_word(line, course):
    """What is so in all counts that fit a course."""
    if not course:
        return "no"
    fitting = [
        counts for counts in itertools.product(range(line.high + 1), repeat=len(course))
        if all(own_shows(line, counts, tick, letter) for tick, letter in enumerate(course))
    ]
    words = {own_matter(line, counts) for counts in fitting}
    return "clash" if not words else "open" if len(words) == 2 else "yes" if words == {True} else "no"


def drawn_course(draw, line, ticks, lies=0.1, wild=True):
    """A course that some counts show, but for the lies; a wild lie may also be a triple that cannot be seen."""
    counts = [draw.randint(0, line.high) for _ in range(ticks)]
    letters = range(len(own_triples(line)))
    course = []
    for tick in range(ticks):
        shown = [letter for letter in letters if own_shows(line, counts, tick, letter)]
        untrue = [letter for letter in letters if wild or own_can_be_seen(line, tick, letter)]
        course.append(draw.choice(untrue if draw.random() < lies else shown))
    return course


class LineTest(unittest.TestCase):
    def test_attributes(self):
        line = Line(2)
        self.assertEqual((line.high, line.limit, line.row, line.fold, line.late), (2, 1, 1, 0, False))
        self.assertEqual(line.triples, ((None, None, None), (0, None, None), (1, None, None), (2, None, None)))
        line = Line(3, limit=2, row=4, fold=0, late=True)
        self.assertEqual((line.high, line.limit, line.row, line.fold, line.late), (3, 2, 4, 0, True))
        self.assertEqual(line.triples[:7], (
            (None, None, None), (None, 0, None), (None, 1, None), (None, 2, None), (None, 3, None), (0, None, None), (0, 0, None),
        ))
        line = Line(1, fold=3)
        self.assertEqual(line.triples[:6], (
            (None, None, None), (None, None, 0), (None, None, 1), (None, None, 2), (None, None, 3), (0, None, None),
        ))
        self.assertEqual(len(list(every_line())), 6 * 4 * 5)
        for line in every_line():
            self.assertEqual(line.triples, own_triples(line))
            self.assertIsInstance(line.triples, tuple)

    def test_wrong_lines(self):
        for high, more in (
            (0, {}), (4, {}), (-1, {}), (1, {"limit": 2}), (3, {"limit": 4}), (2, {"limit": 0}), (2, {"limit": -1}), (1, {"row": 0}), (1, {"row": 5}),
            (1, {"fold": 1}), (1, {"fold": 5}), (1, {"fold": -2}), (1, {"fold": 2, "late": True}), (3, {"fold": 4, "late": True}), (0, {"limit": 0}),
            (4, {"limit": 4}), (1, {"fold": 16}), (1, {"row": -1}),
        ):
            with self.assertRaises(BadMachine):
                Line(high, **more)


class MachineOfALineTest(unittest.TestCase):
    def test_every_line_against_all_counts(self):
        draw = draws(520)
        words = []
        for line in every_line():
            machine = line_machine(line)
            self.assertIsInstance(machine, Machine)
            self.assertEqual(machine.letters, len(own_triples(line)))
            self.assertLessEqual(machine.states, 240)
            self.assertEqual(sure(machine, []), "no")
            for _ in range(12):
                course = drawn_course(draw, line, draw.randint(1, 5))
                words.append(own_word(line, course))
                self.assertEqual(sure(machine, course), words[-1], (vars(line), course))
        for word in ("clash", "yes", "no", "open"):
            self.assertGreater(words.count(word), 60)

    def test_every_course_of_small_lines(self):
        for line, ticks in (
            (Line(1), 5), (Line(1, row=2), 5), (Line(2, limit=2, row=2), 4), (Line(1, row=2, late=True), 3), (Line(1, fold=2), 3), (Line(1, row=3, fold=2), 3),
        ):
            machine = line_machine(line)
            for length in range(ticks + 1):
                for course in itertools.product(range(machine.letters), repeat=length):
                    self.assertEqual(sure(machine, list(course)), own_word(line, list(course)))

    def test_longer_courses(self):
        draw = draws(521)
        for line in (Line(1, row=4, fold=4), Line(1, row=3, late=True), Line(1, row=4, fold=3), Line(2, limit=2, row=2, fold=4)):
            machine = line_machine(line)
            for _ in range(12):
                course = drawn_course(draw, line, 9 if line.high == 1 else 8, lies=0.02)
                self.assertEqual(sure(machine, course), own_word(line, course))

    def test_triples_that_cannot_be_seen(self):
        late = Line(1, late=True)
        machine = line_machine(late)
        self.assertEqual(sure(machine, [late.triples.index((None, 0, None))]), "clash")
        self.assertEqual(sure(machine, [0, late.triples.index((None, 0, None))]), "open")
        self.assertEqual(sure(machine, [0, late.triples.index((None, 1, None))]), "yes")
        fold = Line(1, fold=3)
        total = fold.triples.index((None, None, 3))
        machine = line_machine(fold)
        for place in range(6):
            word = sure(machine, [0] * place + [total])
            self.assertEqual(word, "yes" if place in (2, 5) else "clash")

    def test_least_rules_of_lines(self):
        """The machines serve as others do: each has a least rule that is right."""
        for line in (Line(1), Line(3, limit=2, row=4), Line(2, row=2, late=True), Line(1, row=2, fold=2)):
            machine = line_machine(line)
            rule = least_rule(machine)
            self.assertEqual(judge(machine, rule)[0], "right")
        self.assertEqual(len(least_rule(line_machine(Line(3, limit=2, row=4))).moves), 5)


class SeenTest(unittest.TestCase):
    def test_what_comes_where_it_can(self):
        draw = draws(522)
        for line in every_line():
            ticks = draw.randint(0, 9)
            counts = [draw.randint(0, line.high) for _ in range(ticks)]
            shown = [tuple(draw.random() < 0.6 for _ in range(3)) for _ in range(ticks)]
            course = seen(line, counts, shown)
            self.assertEqual(len(course), ticks)
            for tick, letter in enumerate(course):
                now, before, total = own_triples(line)[letter]
                self.assertEqual(now, counts[tick] if shown[tick][0] else None)
                can = line.late and tick > 0
                self.assertEqual(before, counts[tick - 1] if shown[tick][1] and can else None)
                ends = line.fold and tick % line.fold == line.fold - 1
                self.assertEqual(total, sum(counts[tick - line.fold + 1:tick + 1]) if shown[tick][2] and ends else None)
            self.assertIn(sure(line_machine(line), course), ("yes", "open") if own_matter(line, counts) else ("no", "open"))

    def test_errors(self):
        line = Line(2)
        yes = (True, True, True)
        for counts, shown in (([], [yes]), ([1], []), ([1, 1], [yes]), ([3], [yes]), ([-1], [yes]), ([0, 1, 5], [(False,) * 3] * 3), ([0], [yes, yes])):
            with self.assertRaises(BadMachine):
                seen(line, counts, shown)
        self.assertEqual(seen(line, [], []), [])
        self.assertEqual(seen(line, [2, 0], [yes, yes]), [3, 1])

    def test_lists_may_change_afterwards(self):
        line = Line(1, late=True)
        counts, shown = [1, 0], [(True, True, True)] * 2
        course = seen(line, counts, shown)
        self.assertEqual((counts, shown), ([1, 0], [(True, True, True)] * 2))
        kept = list(course)
        course.clear()
        self.assertEqual(seen(line, counts, shown), kept)


class CourseItemsTest(unittest.TestCase):
    def test_ordinary(self):
        line = Line(3, late=True)
        letters = [line.triples.index(triple) for triple in ((2, None, None), (0, 2, None), (None, 0, None), (None, None, None), (1, 3, None))]
        self.assertEqual(course_items(line, "web", letters), [
            ("count", "web", 0, 0, 2), ("close", "web", 0, 1), ("close", "web", 1, 0), ("count", "web", 0, 0, 2), ("close", "web", 0, 1),
            ("close", "web", 1, 0), ("count", "web", 4, 0, 1), ("close", "web", 4, 1), ("count", "web", 3, 0, 3), ("close", "web", 3, 1),
        ])
        line = Line(2, fold=2)
        letters = [line.triples.index(triple) for triple in ((None, None, None), (1, None, 3), (0, None, None), (None, None, 0))]
        self.assertEqual(course_items(line, "a", letters), [
            ("count", "a", 1, 0, 1), ("close", "a", 1, 1), ("total", ("a", 1, 0), 3, 3), ("close", "a", 2, 0), ("total", ("a", 1, 1), 0, 0),
        ])
        self.assertEqual(course_items(line, "a", []), [])

    def test_errors(self):
        late, fold = Line(1, late=True), Line(1, fold=2)
        early = late.triples.index((None, 1, None))
        total = fold.triples.index((None, None, 1))
        for line, course in (
            (late, [early]), (late, [9]), (late, [-1]), (late, [0, early, 9]), (fold, [total]), (fold, [0, total, total]), (fold, [0, 99]), (Line(1), [3]), (Line(1), [-1]), (Line(1), [0, -3]),
            (late, [late.triples.index((1, 1, None))]),
        ):
            with self.assertRaises(BadMachine):
                course_items(line, "a", course)
        self.assertEqual(course_items(late, "a", [0, early]), [("count", "a", 0, 0, 1), ("close", "a", 0, 1)])
        self.assertEqual(course_items(fold, "a", [0, total]), [("total", ("a", 1, 0), 1, 1)])

    def test_the_answer_is_what_is_sure(self):
        draw = draws(523)
        words = []
        for line in every_line():
            machine = line_machine(line)
            fold = line.fold or 2
            for ticks, folds in ((fold * 2, [fold, fold * 2]), (fold, [fold])):
                world = World([("x", 0, 1), ("a", 0, line.high)], ticks=ticks, folds=folds)
                setup = Setup(world, cap=draw.choice([line.high, 9]))
                for _ in range(3):
                    course = drawn_course(draw, line, draw.randint(1, ticks), lies=0.15, wild=False)
                    question = ("row", line.row, "a", 0, 0, len(course) - 1, ">=", line.limit)
                    word = answer(box_of(setup, course_items(line, "a", course)), question)[0]
                    self.assertEqual(word, sure(machine, course))
                    words.append(word)
        for word in ("clash", "yes", "no", "open"):
            self.assertGreater(words.count(word), 25)

    def test_lists_may_change_afterwards(self):
        line = Line(1)
        course = [2, 1]
        found = course_items(line, "a", course)
        found.pop()
        self.assertEqual((course, len(course_items(line, "a", course))), ([2, 1], 3))


if __name__ == "__main__":
    unittest.main()
