"""What can be known of a machine, parting courses and least rules (points 65 to 67)."""

import itertools
import unittest

from helpers import draws
from machinery import all_courses, counter_machine, first_courses, own_known, own_sure, small_machines
from surelyseen.errors import BadMachine, TooManySets
from surelyseen.knowing import knowledge, least_rule, parting, state_courses
from surelyseen.machines import Machine
from surelyseen.rules import Rule, judge


def own_knowledge(machine):
    return first_courses(machine, lambda course: own_known(machine, course))


def own_parting(machine, first, second):
    """The first parting course, found by following all courses from the two sets of known states."""
    def verdicts(more):
        return [own_sure(machine, course + more) == "yes" for course in (first, second)]

    marks = {}
    layer = [[]]
    while layer:
        fresh = []
        for more in layer:
            if verdicts(more)[0] != verdicts(more)[1]:
                return more
            mark = (own_known(machine, first + more), own_known(machine, second + more))
            if mark not in marks:
                marks[mark] = True
                fresh.append(more)
        layer = [more + [letter] for more in fresh for letter in range(machine.letters)]
    return None


def chain(many, letters=1):
    """A machine with so many sets of known states, one after the other; the matter holds in the last one."""
    moves = [(k, letter, min(k + 1, many - 1)) for k in range(many) for letter in range(letters)]
    return Machine(many, letters, [0], moves, [many - 1])


class KnowledgeTest(unittest.TestCase):
    def test_against_all_courses(self):
        draw = draws(510)
        empty = 0
        for machine in small_machines(draw, 150):
            found = knowledge(machine)
            self.assertEqual(found, [(course, states) for states, course in own_knowledge(machine).items()])
            empty += () in [states for _, states in found]
        self.assertGreater(empty, 20)

    def test_first_courses_of_all(self):
        draw = draws(511)
        for machine in small_machines(draw, 30):
            found = {states: course for course, states in knowledge(machine)}
            firsts = {}
            for course in all_courses(machine.letters, 5):
                firsts.setdefault(own_known(machine, course), course)
            for states, course in firsts.items():
                self.assertEqual(found[states], course)

    def test_no_start(self):
        self.assertEqual(knowledge(Machine(2, 3, [], [(0, 0, 1)], [1])), [([], ())])
        self.assertEqual(knowledge(Machine(1, 1, [0], [], [])), [([], (0,)), ([0], ())])

    def test_just_200_sets_and_201(self):
        courses = [[0] * k for k in range(200)]
        self.assertEqual(knowledge(chain(200)), [(course, (k,)) for k, course in enumerate(courses)])
        self.assertEqual(state_courses(chain(200)), courses)
        self.assertEqual(least_rule(chain(200)).speaking, (199,))
        self.assertEqual(parting(chain(200), [], [0]), [0] * 198)
        over = chain(201)
        for call in (knowledge, least_rule, state_courses, lambda machine: parting(machine, [], [0])):
            with self.assertRaises(TooManySets) as caught:
                call(over)
            self.assertEqual(caught.exception.many, 200)
        # the 200th state has no moves: with the empty set there are 201 sets
        moves = [(k, 0, k + 1) for k in range(199)]
        with self.assertRaises(TooManySets):
            knowledge(Machine(200, 1, [0], moves, []))
        self.assertEqual(knowledge(Machine(199, 1, [0], moves[:198], []))[-1], ([0] * 199, ()))

    def test_many_sets_at_once(self):
        wide = Machine(201, 200, [0], [(0, letter, letter + 1) for letter in range(198)], [])
        self.assertEqual(len(knowledge(wide)), 200)
        with self.assertRaises(TooManySets):
            knowledge(Machine(201, 200, [0], [(0, letter, letter + 1) for letter in range(199)], []))


class PartingTest(unittest.TestCase):
    def test_against_all_courses(self):
        draw = draws(512)
        lengths = []
        for machine in small_machines(draw, 120):
            courses = list(itertools.islice(all_courses(machine.letters, 4), 20))
            for _ in range(8):
                first, second = draw.choice(courses), draw.choice(courses)
                found = parting(machine, first, second)
                self.assertEqual(found, own_parting(machine, first, second))
                self.assertEqual(parting(machine, second, first), found)
                lengths.append(None if found is None else len(found))
        for length in (None, 0, 1, 2):
            self.assertGreater(lengths.count(length), 10)

    def test_the_smaller_letter_first(self):
        # after [0] and after [1] the letters 0 to 3 lead on: 1 and 2 part, and only behind one more letter does 0
        moves = [(0, 0, 1), (0, 1, 2), (1, 0, 3), (2, 0, 4), (1, 2, 5), (2, 2, 6), (1, 1, 5), (2, 1, 6), (3, 0, 5), (4, 0, 6)]
        machine = Machine(7, 3, [0], moves, [5])
        self.assertEqual(parting(machine, [0], [1]), [1])
        self.assertEqual(parting(machine, [0, 0], [1, 0]), [0])
        self.assertEqual(parting(machine, [0, 1], [1, 1]), [])
        self.assertIsNone(parting(machine, [0], [0]))
        self.assertIsNone(parting(machine, [2], [0, 0, 0, 0, 0]))

    def test_errors(self):
        machine = Machine(2, 2, [0], [(0, 0, 1), (1, 1, 1)], [1])
        for first, second in (([2], []), ([], [2]), ([-1], [0]), ([0], [0, 0, -1]), ([5], [7]), ([0, 1, 2], [0])):
            with self.assertRaises(BadMachine):
                parting(machine, first, second)
        with self.assertRaises(TooManySets):
            parting(chain(201), [7], [-1])
        with self.assertRaises(BadMachine):
            parting(chain(200), [], [1])


class LeastRuleTest(unittest.TestCase):
    def test_right_and_in_order(self):
        draw = draws(513)
        sizes = []
        for machine in small_machines(draw, 150):
            rule = least_rule(machine)
            courses = state_courses(machine)
            self.assertEqual(judge(machine, rule)[0], "right")
            self.assertEqual([rule.after(course) for course in courses], list(range(len(rule.moves))))
            self.assertEqual(list(rule.speaking), sorted(rule.speaking))
            for one, other in itertools.combinations(courses, 2):
                self.assertIsNotNone(own_parting(machine, one, other))
            reached = first_courses(machine, lambda course: (rule.after(course), own_known(machine, course)))
            firsts = {}
            for (state, _), course in reached.items():
                firsts.setdefault(state, course)
            self.assertEqual(courses, [firsts[state] for state in range(len(rule.moves))])
            self.assertEqual(list(firsts), list(range(len(rule.moves))))
            sizes.append((len(rule.moves), len(own_knowledge(machine))))
        self.assertGreater(len([1 for small, large in sizes if small < large]), 20)
        self.assertGreater(len([1 for small, _ in sizes if small > 2]), 20)

    def test_against_all_rules_with_fewer_states(self):
        draw = draws(514)
        tried = 0
        for machine in small_machines(draw, 300):
            least = least_rule(machine)
            many = len(least.moves)
            if many < 2 or many > 3 or machine.letters > 2:
                continue
            tried += 1
            for states in range(1, many):
                rows = list(itertools.product(range(states), repeat=machine.letters))
                for moves in itertools.product(rows, repeat=states):
                    for marks in itertools.product((False, True), repeat=states):
                        rule = Rule(moves, [k for k, mark in enumerate(marks) if mark])
                        right = all(
                            rule.speaks(course) == (own_sure(machine, course) == "yes")
                            for course in all_courses(machine.letters, 3 if machine.letters == 2 else 8)
                        )
                        if right:
                            self.assertEqual(judge(machine, rule)[0], "wrong")
        self.assertGreater(tried, 30)

    def test_the_only_one_with_its_states(self):
        """Of all rules with as many states, numbered so, only the least rule is right."""
        draw = draws(515)
        tried = 0
        for machine in small_machines(draw, 60):
            least = least_rule(machine)
            many = len(least.moves)
            if many > 3 or machine.letters > 1:
                continue
            tried += 1
            for moves in itertools.product(range(many), repeat=many):
                for marks in itertools.product((False, True), repeat=many):
                    rule = Rule([[end] for end in moves], [k for k, mark in enumerate(marks) if mark])
                    reached = list(dict.fromkeys(rule.after([0] * k) for k in range(2 * many)))
                    if reached == list(range(many)) and judge(machine, rule)[0] == "right":
                        self.assertEqual(rule, least)
        self.assertGreater(tried, 10)

    def test_ordinary(self):
        # the matter has been seen for sure once the letter 1 has come
        machine = Machine(2, 2, [0], [(0, 0, 0), (0, 1, 1), (1, 0, 1), (1, 1, 1)], [1])
        rule = least_rule(machine)
        self.assertEqual((rule.moves, rule.speaking), (((0, 1), (1, 1)), (1,)))
        self.assertEqual(state_courses(machine), [[], [1]])
        never = least_rule(Machine(2, 3, [0, 1], [(0, 2, 1)], [0]))
        self.assertEqual((never.moves, never.speaking), (((0, 0, 0),), ()))
        always = least_rule(Machine(1, 1, [0], [(0, 0, 0)], [0]))
        self.assertEqual((always.moves, always.speaking), (((0,),), (0,)))

    def test_large(self):
        ring = counter_machine(200, [1, 2, 0] + [7] * 197, [3, 150])
        rule = least_rule(ring)
        self.assertEqual((len(rule.moves), rule.letters), (200, 200))
        self.assertEqual(judge(ring, rule)[0], "right")
        self.assertEqual(parting(ring, [], [0]), own_parting(ring, [], [0]))
        even = counter_machine(200, [1] * 20, list(range(0, 200, 2)))
        self.assertEqual(least_rule(even).moves, ((1,) * 20, (0,) * 20))
        draw = draws(516)
        moves = draw.sample([(k, letter, (k * k + letter) % 400) for k in range(400) for letter in range(200)], 4000)
        wide = Machine(400, 200, list(range(400)), moves, list(range(200)))
        with self.assertRaises(TooManySets):
            knowledge(wide)
        slow = least_rule(chain(200, 20))
        self.assertEqual(len(slow.moves), 200)

    def test_lists_may_change_afterwards(self):
        machine = Machine(2, 2, [0], [(0, 0, 0), (0, 1, 1), (1, 0, 1), (1, 1, 1)], [1])
        for call in (knowledge, state_courses):
            found = call(machine)
            found[0] = None
            found.pop()
            again = call(machine)
            again[-1] = 0
            self.assertEqual(len(call(machine)), 2)
        knowledge(machine)[0][0].append(1)
        state_courses(machine)[1].append(1)
        self.assertEqual(knowledge(machine), [([], (0,)), ([1], (1,))])
        self.assertEqual(state_courses(machine), [[], [1]])
        first, second = [0], [1]
        parting(machine, first, second).append(7)
        self.assertEqual((first, second, parting(machine, first, second)), ([0], [1], []))


if __name__ == "__main__":
    unittest.main()
