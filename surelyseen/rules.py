"""Alert rules: they see letters one after the other and keep only a state."""

from surelyseen.courses import Courses
from surelyseen.errors import BadRule, TooManySets
from surelyseen.machines import all_after, verdict

MOST_PAIRS = 400


class Rule:
    """A rule; it starts in state 0 and follows the next states that it has for each letter."""

    def __init__(self, moves, speaking):
        self.moves = tuple([tuple(row) for row in moves])
        self.speaking = tuple(speaking)
        if not self.moves:
            raise BadRule("a rule has at least one state")
        self.letters = len(self.moves[0])
        for row in self.moves:
            if len(row) != self.letters or not row:
                raise BadRule("a rule has the next state for each letter, for at least one, in each state")
            _check_states(self.moves, row)
        _check_states(self.moves, self.speaking)
        if len(set(self.speaking)) != len(self.speaking):
            raise BadRule("the states in which a rule speaks are different")

    def __eq__(self, other):
        if not isinstance(other, Rule):
            return False
        return self.moves == other.moves and sorted(self.speaking) == sorted(other.speaking)

    def after(self, course):
        """The state after a course."""
        state = 0
        for letter in course:
            if not 0 <= letter < self.letters:
                raise BadRule("the rule does not have the letter")
            state = self.moves[state][letter]
        return state

    def speaks(self, course):
        """Whether the rule speaks after a course."""
        return self.after(course) in self.speaking


def judge(machine, rule):
    """("right", pairs) with all table pairs, or ("wrong", course) with the first course after which it is wrong."""
    _check_letters(machine, rule)
    start = (0, tuple(sorted(machine.starts)))
    courses = Courses(start, lambda pair: _pairs_after(machine, rule, pair), MOST_PAIRS + 1)
    for place, pair in enumerate(courses.things[:MOST_PAIRS]):
        if not _is_right(machine, rule, pair):
            return ("wrong", courses.course(place))
    if len(courses.things) > MOST_PAIRS:
        raise TooManySets(MOST_PAIRS)
    return ("right", courses.things)


def closes(machine, rule, pairs):
    """Whether a list of pairs shows that the rule is right: it has the first pair and those that follow, all right."""
    _check_letters(machine, rule)
    listed = {pair: True for pair in pairs}
    if (0, tuple(sorted(machine.starts))) not in listed:
        return False
    for pair in listed:
        if not _exists(machine, rule, pair) or not _is_right(machine, rule, pair):
            return False
        for following in _pairs_after(machine, rule, pair):
            if following not in listed:
                return False
    return True


def _check_states(moves, listed):
    for state in listed:
        if not 0 <= state < len(moves):
            raise BadRule("the rule does not have the state")


def _check_letters(machine, rule):
    if machine.letters != rule.letters:
        raise BadRule("the rule has other letters than the machine")


def _pairs_after(machine, rule, pair):
    """For each letter the table pair that follows."""
    state, states = pair
    return list(zip(rule.moves[state], all_after(machine, states)))


def _is_right(machine, rule, pair):
    """Whether the rule speaks in its state exactly if "yes" is sure of the known states."""
    state, states = pair
    return (state in rule.speaking) == (verdict(machine, states) == "yes")


def _exists(machine, rule, pair):
    state, states = pair
    if not 0 <= state < len(rule.moves):
        return False
    before = -1
    for other in states:
        if not before < other < machine.states:
            return False
        before = other
    return True
