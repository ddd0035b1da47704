"""Alert rules and whether they are right (points 62 to 64)."""

import itertools
import unittest

from helpers import draws
from machinery import all_courses, counter_machine, first_courses, own_known, own_sure, small_machines
from surelyseen.errors import BadRule, TooManySets
from surelyseen.knowing import least_rule
from surelyseen.machines import Machine
from surelyseen.rules import Rule, closes, judge


def own_after(rule, course):
    state = 0
    for letter in course:
        state = rule.moves[state][letter]
    return state


def own_pairs(machine, rule):
    """For each table pair the first course that leads to it."""
    return first_courses(machine, lambda course: (own_after(rule, course), own_known(machine, course)))


def drawn_rule(draw, letters, states):
    moves = [[draw.randrange(states) for _ in range(letters)] for _ in range(states)]
    return Rule(moves, draw.sample(range(states), draw.randint(0, states)))


def bent(draw, rule):
    """The rule with one change, perhaps none that matters."""
    moves = [list(row) for row in rule.moves]
    speaking = list(rule.speaking)
    if draw.random() < 0.5:
        moves[draw.randrange(len(moves))][draw.randrange(rule.letters)] = draw.randrange(len(moves))
    else:
        state = draw.randrange(len(moves))
        speaking = [one for one in speaking if one != state] if state in speaking else [state] + speaking
    return Rule(moves, speaking)


class RuleTest(unittest.TestCase):
    def test_attributes_and_methods(self):
        rule = Rule([[0, 1, 2], [2, 2, 0], [1, 1, 1]], [2, 0])
        self.assertEqual((rule.moves, rule.speaking, rule.letters), (((0, 1, 2), (2, 2, 0), (1, 1, 1)), (2, 0), 3))
        self.assertEqual([rule.after(course) for course in ([], [0], [1], [2], [1, 0], [1, 2, 2, 0])], [0, 0, 1, 2, 2, 1])
        for course, word in (([], True), ([1], False), ([1, 1], True), ([2, 0], False)):
            self.assertIs(rule.speaks(course), word)

    def test_a_rule_of_one_state(self):
        silent, loud = Rule([[0]], []), Rule([[0]], [0])
        self.assertEqual((silent.after([0] * 9), silent.speaks([0, 0]), loud.speaks([])), (0, False, True))
        self.assertEqual((silent.letters, silent.speaking), (1, ()))

    def test_wrong_rules(self):
        for moves, speaking in (
            ([], []), ([], [0]), ([[]], []), ([[], []], []), ([[0], []], []), ([[], [0]], []), ([[0, 0], [0]], []), ([[0], [0, 0]], []),
            ([[1]], []), ([[-1]], []), ([[0, 1], [0, 2]], []), ([[0]], [1]), ([[0]], [-1]), ([[0]], [0, 0]), ([[0], [1]], [1, 0, 1]), ([[0], [1]], [0, 2]),
        ):
            with self.assertRaises(BadRule):
                Rule(moves, speaking)

    def test_letters_that_do_not_exist(self):
        rule = Rule([[0, 1], [1, 0]], [1])
        for course in ([2], [-1], [0, 1, 2], [99], [1, -1, 0]):
            for call in (rule.after, rule.speaks):
                with self.assertRaises(BadRule):
                    call(course)
        self.assertEqual(rule.after([1, 1, 1]), 1)

    def test_equal_rules(self):
        rule = Rule([[0, 1], [1, 0]], [1, 0])
        self.assertTrue(rule == Rule([[0, 1], [1, 0]], [0, 1]))
        self.assertFalse(rule != Rule([[0, 1], [1, 0]], [0, 1]))
        for other in (Rule([[0, 1], [1, 0]], [1]), Rule([[0, 1], [1, 1]], [0, 1]), Rule([[0, 1]] * 2 + [[0, 0]], [0, 1]), 5, None, "x", ((0, 1), (1, 0))):
            self.assertFalse(rule == other)
            self.assertTrue(rule != other)

    def test_changed_lists_have_no_effect(self):
        moves, speaking = [[0, 1], [1, 1]], [1]
        rule = Rule(moves, speaking)
        moves[0][1] = 0
        moves.append([0, 0])
        speaking.append(0)
        self.assertEqual((rule.moves, rule.speaking, rule.after([1])), (((0, 1), (1, 1)), (1,), 1))
        course = [0, 1]
        self.assertTrue(rule.speaks(course))
        self.assertEqual(course, [0, 1])


class JudgeTest(unittest.TestCase):
    def check(self, machine, rule):
        """Judge and closes against following all courses that lead to new pairs; the word."""
        courses = own_pairs(machine, rule)
        wrong = [course for course in courses.values() if rule.speaks(course) != (own_sure(machine, course) == "yes")]
        word, found = judge(machine, rule)
        if wrong:
            self.assertEqual((word, found), ("wrong", wrong[0]))
            self.assertFalse(closes(machine, rule, list(courses)))
        else:
            self.assertEqual((word, found), ("right", list(courses)))
            self.assertTrue(closes(machine, rule, found))
        return word

    def test_against_all_courses(self):
        draw = draws(500)
        words = []
        for machine in small_machines(draw, 150):
            least = least_rule(machine)
            self.assertEqual(self.check(machine, least), "right")
            for rule in [drawn_rule(draw, machine.letters, draw.randint(1, 3)) for _ in range(3)] + [bent(draw, least) for _ in range(4)]:
                words.append(self.check(machine, rule))
        self.assertGreater(words.count("right"), 50)
        self.assertGreater(words.count("wrong"), 50)

    def test_wrong_is_the_first_of_all_courses(self):
        draw = draws(501)
        many = 0
        for machine in small_machines(draw, 60):
            rule = bent(draw, least_rule(machine))
            word, found = judge(machine, rule)
            first = next((
                course for course in all_courses(machine.letters, 5 if machine.letters > 2 else 7)
                if rule.speaks(course) != (own_sure(machine, course) == "yes")
            ), None)
            if first is not None:
                many += 1
                self.assertEqual((word, found), ("wrong", first))
            elif word == "wrong":
                self.assertGreater(len(found), 5)
        self.assertGreater(many, 20)

    def test_the_order_of_the_pairs(self):
        machine = Machine(2, 2, [1, 0], [(0, 1, 1), (1, 0, 0), (1, 1, 1)], [1])
        self.assertEqual(
            judge(machine, Rule([[2, 1], [2, 1], [3, 1], [3, 3]], [1])),
            ("right", [(0, (0, 1)), (2, (0,)), (1, (1,)), (3, ())]),
        )
        self.assertEqual(judge(machine, Rule([[0, 1], [0, 1]], [1])), ("wrong", [0, 0, 1]))
        self.assertEqual(judge(machine, Rule([[0, 0]], [])), ("wrong", [1]))
        self.assertEqual(judge(machine, Rule([[0, 0]], [0])), ("wrong", []))

    def test_just_400_pairs_and_more(self):
        silent = Rule([[0, 0]], [])
        for states in (399, 400):
            word, pairs = judge(counter_machine(states, [1, 0], []), silent)
            self.assertEqual((word, pairs), ("right", [(0, (k,)) for k in range(states)]))
        self.assertTrue(closes(counter_machine(400, [1, 0], []), silent, pairs))
        for place in (0, 1, 200, 398, 399):
            self.assertEqual(judge(counter_machine(400, [1, 0], [place]), silent), ("wrong", [0] * place))

    def test_more_than_400_pairs(self):
        """Machine and rule go around with periods of 20 and 21: 420 pairs, the pair of place k after k letters."""
        going = [[(k + 1) % 21] for k in range(21)]
        machine = counter_machine(20, [1], [])
        with self.assertRaises(TooManySets) as caught:
            judge(machine, Rule(going, []))
        self.assertEqual(caught.exception.many, 400)
        spoken = counter_machine(20, [1], [19])
        self.assertEqual(judge(spoken, Rule(going, [])), ("wrong", [0] * 19))
        # with a lead of one letter the pairs are 401; the matter holds only in the last, behind the first 400
        for states, lead, word in ((400, 0, "wrong"), (400, 1, None), (399, 1, "wrong")):
            moves = [(k, 0, k + 1) for k in range(states + lead - 1)] + [(states + lead - 1, 0, states + lead - 1)]
            machine = Machine(states + lead, 1, [0], moves, [states + lead - 1])
            if word is None:
                with self.assertRaises(TooManySets) as caught:
                    judge(machine, Rule([[0]], []))
                self.assertEqual(caught.exception.many, 400)
            else:
                self.assertEqual(judge(machine, Rule([[0]], [])), ("wrong", [0] * (states + lead - 1)))

    def test_the_400th_of_401_pairs_wrong(self):
        moves = [(k, 0, k + 1) for k in range(400)] + [(400, 0, 400)]
        self.assertEqual(judge(Machine(401, 1, [0], moves, [399]), Rule([[0]], [])), ("wrong", [0] * 399))
        self.assertEqual(judge(Machine(401, 1, [0], moves, [399, 400]), Rule([[0]], [])), ("wrong", [0] * 399))
        with self.assertRaises(TooManySets):
            judge(Machine(401, 1, [0], moves, [400]), Rule([[0]], []))

    def test_other_letters(self):
        machine = Machine(1, 2, [0], [], [])
        for rule in (Rule([[0]], []), Rule([[0, 0, 0]], [])):
            with self.assertRaises(BadRule):
                judge(machine, rule)
            with self.assertRaises(BadRule):
                closes(machine, rule, [(7, (9, 8))])
        big = counter_machine(401, [1], [])
        with self.assertRaises(BadRule):
            judge(big, Rule([[0, 0]], []))

    def test_closes(self):
        machine = Machine(3, 2, [2, 0], [(0, 0, 1), (2, 0, 1), (1, 1, 1), (0, 1, 0)], [1])
        rule = Rule([[1, 2], [2, 1], [2, 2], [0, 3]], [1])
        word, pairs = judge(machine, rule)
        self.assertEqual(word, "wrong")
        rule = Rule([[1, 3], [2, 1], [2, 2], [1, 3]], [1])
        word, pairs = judge(machine, rule)
        self.assertEqual((word, pairs), ("right", [(0, (0, 2)), (1, (1,)), (3, (0,)), (2, ())]))
        for listed in itertools.permutations(pairs):
            self.assertTrue(closes(machine, rule, list(listed)))
        self.assertTrue(closes(machine, rule, pairs + pairs[::-1]))
        for k in range(len(pairs)):
            self.assertFalse(closes(machine, rule, pairs[:k] + pairs[k + 1:]))
        self.assertFalse(closes(machine, rule, []))
        # pairs that no course reaches must meet the same conditions
        self.assertFalse(closes(machine, rule, pairs + [(3, ())]))
        self.assertFalse(closes(machine, rule, pairs + [(3, ()), (1, ())]))
        self.assertTrue(closes(machine, rule, [(2, ())] + pairs))
        self.assertTrue(closes(machine, rule, pairs + [(0, (0,))]))
        self.assertFalse(closes(machine, rule, pairs + [(1, (0,))]))
        self.assertFalse(closes(machine, rule, pairs + [(2, (1,)), (2, ())]))
        for wrong in ((4, ()), (-1, ()), (2, (3,)), (2, (-1,)), (0, (2, 0)), (0, (0, 0, 2)), (0, (0, 2, 2)), (3, (0, 5)), (9, (9, 8))):
            self.assertFalse(closes(machine, rule, pairs + [wrong]))
            self.assertFalse(closes(machine, rule, [wrong] + pairs))

    def test_closes_with_what_does_not_exist(self):
        """Numbers below 0 are no states, also where the last state would do."""
        machine = Machine(2, 1, [0], [(0, 0, 0), (1, 0, 1)], [])
        rule = Rule([[0], [1]], [])
        pairs = [(0, (0,)), (1, (1,)), (1, (0,)), (0, (1,))]
        self.assertTrue(closes(machine, rule, pairs))
        for wrong in ((-1, (1,)), (1, (-1,)), (0, (-1, 0)), (-1, ()), (2, (0,)), (0, (2,))):
            self.assertFalse(closes(machine, rule, pairs + [wrong]))

    def test_large(self):
        draw = draws(502)
        moves = draw.sample([(k, letter, (7 * k + letter) % 400) for k in range(400) for letter in range(200)], 4000)
        machine = Machine(400, 200, list(range(400)), moves, list(range(0, 400, 3)))
        rule = Rule([[(state + letter) % 400 for letter in range(200)] for state in range(400)], [])
        with self.assertRaises(TooManySets):
            judge(Machine(400, 200, list(range(400)), moves, []), rule)
        word, course = judge(machine, Rule([[0] * 200 for _ in range(400)], list(range(400))))
        self.assertEqual((word, course), ("wrong", []))
        wide = [(k, letter, (k + 1) % 400) for k in range(400) for letter in range(10)]
        ring = Machine(400, 200, list(range(0, 400, 2)), wide, list(range(1, 400, 2)))
        rule = Rule([[1] * 10 + [2] * 190, [0] * 10 + [2] * 190, [2] * 200], [1])
        word, pairs = judge(ring, rule)
        self.assertEqual((word, len(pairs)), ("right", 3))
        self.assertTrue(closes(ring, rule, pairs * 100))

    def test_lists_may_change_afterwards(self):
        machine, rule = counter_machine(3, [1], [1]), Rule([[1], [2], [0]], [1])
        word, pairs = judge(machine, rule)
        kept = list(pairs)
        self.assertTrue(closes(machine, rule, pairs))
        self.assertEqual(pairs, kept)
        pairs.clear()
        self.assertEqual(judge(machine, rule), ("right", kept))
        wrong = Rule([[1], [2], [0]], [2])
        judge(machine, wrong)[1].append(0)
        self.assertEqual(judge(machine, wrong), ("wrong", [0]))


if __name__ == "__main__":
    unittest.main()
