"""Machines with hidden states (points 60 and 61)."""

import itertools
import unittest

from helpers import draws
from machinery import drawn_machine
from surelyseen.errors import BadMachine
from surelyseen.machines import Machine, known, sure


def hidden_ends(machine, course):
    """The states in which hidden runs that fit the course end, found by trying all lists of states."""
    moves = set(machine.moves)
    return {
        run[-1] for run in itertools.product(range(machine.states), repeat=len(course) + 1)
        if run[0] in machine.starts and all((run[k], letter, run[k + 1]) in moves for k, letter in enumerate(course))
    }


class MachineTest(unittest.TestCase):
    def test_attributes(self):
        machine = Machine(3, 2, [2, 0], [(0, 1, 2), (2, 0, 2)], [1])
        self.assertEqual((machine.states, machine.letters), (3, 2))
        self.assertEqual((machine.starts, machine.moves, machine.matter), ((2, 0), ((0, 1, 2), (2, 0, 2)), (1,)))

    def test_least(self):
        machine = Machine(1, 1, [], [], [])
        self.assertEqual((machine.starts, machine.moves, machine.matter), ((), (), ()))
        self.assertEqual((known(machine, []), sure(machine, [])), ([], "clash"))

    def test_wrong_machines(self):
        good = {"states": 2, "letters": 2, "starts": [0], "moves": [(0, 0, 1)], "matter": [1]}
        Machine(**good)
        for name, value in (
            ("states", 0), ("states", -1), ("letters", 0), ("letters", -3), ("starts", [2]), ("starts", [-1]), ("starts", [0, 0]), ("starts", [1, 0, 1]),
            ("moves", [(2, 0, 0)]), ("moves", [(-1, 0, 0)]), ("moves", [(0, 2, 0)]), ("moves", [(0, -1, 0)]), ("moves", [(0, 0, 2)]),
            ("moves", [(0, 0, -1)]), ("moves", [(0, 0, 1), (0, 0, 1)]), ("moves", [(0, 0, 1), (1, 1, 1), (0, 0, 1)]), ("matter", [2]), ("matter", [-1]),
            ("matter", [1, 1]),
        ):
            with self.assertRaises(BadMachine):
                Machine(**{**good, name: value})
        for states, letters in ((0, 1), (1, 0), (-1, 1), (1, -1), (0, 0)):
            with self.assertRaises(BadMachine):
                Machine(states, letters, [], [], [])
        self.assertEqual(Machine(2, 2, [1, 0], [(0, 0, 1), (0, 1, 1), (0, 0, 0), (1, 0, 1)], [0, 1]).starts, (1, 0))

    def test_changed_lists_have_no_effect(self):
        starts, moves, matter = [0], [(0, 0, 1)], [1]
        machine = Machine(2, 1, starts, moves, matter)
        starts.append(1)
        moves.append((0, 0, 0))
        matter.clear()
        self.assertEqual((machine.starts, machine.moves, machine.matter), ((0,), ((0, 0, 1),), (1,)))
        self.assertEqual((known(machine, [0]), sure(machine, [0])), ([1], "yes"))


class KnownTest(unittest.TestCase):
    def test_the_words(self):
        machine = Machine(4, 3, [0], [(0, 0, 1), (0, 0, 2), (1, 1, 1), (2, 1, 3), (3, 2, 0), (1, 2, 2)], [1, 3])
        for course, states, word in (
            ([], [0], "no"), ([0], [1, 2], "open"), ([0, 1], [1, 3], "yes"), ([0, 1, 2], [0, 2], "no"), ([1], [], "clash"), ([0, 1, 2, 2], [], "clash"),
            ([1, 0, 0], [], "clash"), ([0, 1, 1], [1], "yes"),
        ):
            self.assertEqual(known(machine, course), states)
            self.assertEqual(sure(machine, course), word)
            self.assertIsInstance(known(machine, course), list)

    def test_against_all_hidden_runs(self):
        draw = draws(150)
        words = []
        for states, letters in ((1, 1), (2, 1), (2, 2), (3, 2), (4, 2), (5, 3)):
            for many in (0, 2, 4, 8, 8, 14, 14, 20):
                machine = drawn_machine(draw, states, letters, many)
                for length in range(4):
                    for course in itertools.product(range(letters), repeat=length):
                        ends = hidden_ends(machine, course)
                        self.assertEqual(known(machine, list(course)), sorted(ends))
                        inside = ends & set(machine.matter)
                        word = "clash" if not ends else "yes" if inside == ends else "open" if inside else "no"
                        self.assertEqual(sure(machine, list(course)), word)
                        words.append(word)
        for word in ("clash", "yes", "no", "open"):
            self.assertGreater(words.count(word), 20)

    def test_letters_that_do_not_exist(self):
        machine = Machine(2, 2, [0], [(0, 0, 1)], [1])
        for course in ([2], [-1], [0, 2], [1, 1, 1, 2], [0, 0, -1], [99]):
            for call in (known, sure):
                with self.assertRaises(BadMachine):
                    call(machine, course)

    def test_large_machines(self):
        draw = draws(151)
        moves = {(draw.randrange(400), draw.randrange(200), draw.randrange(400)) for _ in range(5000)}
        moves = sorted(moves)[:4000]
        draw.shuffle(moves)
        machine = Machine(400, 200, list(range(399, -1, -1)), moves, list(range(0, 400, 2)))
        for _ in range(30):
            course = [draw.randrange(200) for _ in range(draw.randint(0, 4))]
            ends = set(range(400))
            for letter in course:
                ends = {end for state, one, end in moves if one == letter and state in ends}
            self.assertEqual(known(machine, course), sorted(ends))
        ring = Machine(400, 200, [0], [(k, letter, (k + letter + 1) % 400) for k in range(400) for letter in range(10)], [399])
        self.assertEqual(known(ring, [9] * 399 + [8]), [(10 * 399 + 9) % 400])
        self.assertEqual(sure(ring, [9] * 399 + [8]), "yes")
        self.assertEqual(sure(ring, [9] * 400), "no")
        self.assertEqual(known(ring, [199]), [])

    def test_lists_may_change_afterwards(self):
        machine = Machine(2, 1, [1, 0], [(0, 0, 1), (1, 0, 0)], [1])
        course = [0, 0]
        found = known(machine, course)
        self.assertEqual((found, course), ([0, 1], [0, 0]))
        found.clear()
        self.assertEqual(known(machine, course), [0, 1])
        known(machine, []).append(5)
        self.assertEqual(known(machine, []), [0, 1])
        self.assertEqual(machine.starts, (1, 0))


if __name__ == "__main__":
    unittest.main()
