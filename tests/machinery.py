"""Machines and courses for the tests, reckoned by trying all courses of a length that suffices."""

import itertools

from surelyseen.machines import Machine


def drawn_machine(draw, states, letters, many):
    moves = list(itertools.product(range(states), range(letters), range(states)))
    return Machine(
        states, letters, draw.sample(range(states), draw.randint(0, states)), draw.sample(moves, min(many, len(moves))),
        draw.sample(range(states), draw.randint(0, states)),
    )


def small_machines(draw, many):
    """Machines with so few sets of known states that courses of a short length reach them all."""
    shapes = [(1, 1, 1), (2, 1, 2), (2, 2, 3), (2, 2, 5), (3, 1, 4), (3, 2, 5), (3, 2, 8), (3, 3, 6), (4, 2, 6), (4, 2, 9)]
    return [drawn_machine(draw, *draw.choice(shapes)) for _ in range(many)]


def own_known(machine, course):
    states = set(machine.starts)
    for letter in course:
        states = {end for state, one, end in machine.moves if one == letter and state in states}
    return tuple(sorted(states))


def own_sure(machine, course):
    states = own_known(machine, course)
    inside = [state for state in states if state in machine.matter]
    return "clash" if not states else "yes" if len(inside) == len(states) else "open" if inside else "no"


def all_courses(letters, longest):
    """All courses up to a length, in the order of courses."""
    for length in range(longest + 1):
        for course in itertools.product(range(letters), repeat=length):
            yield list(course)


def first_courses(machine, mark):
    """For each mark of a course the first course that has it, in the order of courses.

    mark(course) is such that the mark of a longer course follows from that of the course without its last letter;
    so no longer course has a new mark once a length has brought none.
    """
    found = {}
    layer = [[]]
    while layer:
        fresh = []
        for course in layer:
            if mark(course) not in found:
                found[mark(course)] = course
                fresh.append(course)
        layer = [course + [letter] for course in fresh for letter in range(machine.letters)]
    return found


def counter_machine(states, steps, matter):
    """One hidden state that moves by a step for each letter, around; so the sets of known states are the states."""
    moves = [(k, letter, (k + step) % states) for k in range(states) for letter, step in enumerate(steps)]
    return Machine(states, len(steps), [0], moves, matter)
