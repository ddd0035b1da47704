"""What can be known of a machine, and the right rule with the least number of states."""

from surelyseen.courses import Courses
from surelyseen.errors import TooManySets
from surelyseen.machines import all_after, known, verdict
from surelyseen.rules import Rule

MOST_SETS = 200


class Knowledge:
    """All sets of known states that occur, in the order of their first courses, and how they differ.

    sets: the tuples of known states.
    table: for each set the place of the one that follows for each letter.
    rounds: for each length the class of each set; two sets are of one class if no course of up to this length tells
        them apart. Of the last one's classes no course does.
    """

    def __init__(self, machine):
        start = tuple(sorted(machine.starts))
        self._courses = Courses(start, lambda states: all_after(machine, states), MOST_SETS + 1)
        self.sets = self._courses.things
        if len(self.sets) > MOST_SETS:
            raise TooManySets(MOST_SETS)
        places = {states: place for place, states in enumerate(self.sets)}
        self.table = [[places[states] for states in all_after(machine, before)] for before in self.sets]
        self.sure = [verdict(machine, states) == "yes" for states in self.sets]
        self.rounds = _rounds(self.table, self.sure)

    def first_course(self, place):
        """The first course after which a set occurs."""
        return self._courses.course(place)

    def leaders(self):
        """For each class of sets that no course tells apart the place of the first one, ascending."""
        found = {}
        for place, number in enumerate(self.rounds[-1]):
            found.setdefault(number, place)
        return list(found.values())


def knowledge(machine):
    """Pairs (course, known states) for all sets of known states that occur, each with the first course to it."""
    found = Knowledge(machine)
    return [(found.first_course(place), states) for place, states in enumerate(found.sets)]


def parting(machine, first, second):
    """The first course with which exactly one of two courses becomes a "yes", or None."""
    found = Knowledge(machine)
    one = found.sets.index(tuple(known(machine, first)))
    other = found.sets.index(tuple(known(machine, second)))
    depth = 0
    while found.rounds[depth][one] == found.rounds[depth][other]:
        depth += 1
        if depth == len(found.rounds):
            return None
    course = []
    while depth > 0:
        depth -= 1
        letter = _parting_letter(found.rounds[depth], found.table[one], found.table[other])
        course.append(letter)
        one = found.table[one][letter]
        other = found.table[other][letter]
    return course


def least_rule(machine):
    """The right rule with the least number of states."""
    found = Knowledge(machine)
    leaders = found.leaders()
    numbers = {found.rounds[-1][place]: state for state, place in enumerate(leaders)}
    moves = [[numbers[found.rounds[-1][end]] for end in found.table[place]] for place in leaders]
    return Rule(moves, [state for state, place in enumerate(leaders) if found.sure[place]])


def state_courses(machine):
    """For each state of the least rule the first course that reaches it."""
    found = Knowledge(machine)
    return [found.first_course(place) for place in found.leaders()]


def _rounds(table, sure):
    """Split the classes by where the letters lead, until that splits none."""
    rounds = [_numbered(sure)]
    while True:
        before = rounds[-1]
        marks = [(before[place], tuple([before[end] for end in row])) for place, row in enumerate(table)]
        after = _numbered(marks)
        if len(set(after)) == len(set(before)):
            return rounds
        rounds.append(after)


def _numbered(marks):
    """Each mark replaced by a number, equal ones by the same."""
    numbers = {}
    return [numbers.setdefault(mark, len(numbers)) for mark in marks]


def _parting_letter(classes, row, other_row):
    """The first letter that leads to different classes."""
    for letter, (end, other_end) in enumerate(zip(row, other_row)):
        if classes[end] != classes[other_end]:
            return letter
    return None
