"""Machines with hidden states: what is known of them after a course of letters."""

from surelyseen.errors import BadMachine


class Machine:
    """A machine; beside what it was made from it holds where its moves lead.

    following: for each pair (state, letter) that has moves the list of their next states.
    """

    def __init__(self, states, letters, starts, moves, matter):
        self.states = states
        self.letters = letters
        self.starts = tuple(starts)
        self.moves = tuple([(state, letter, end) for state, letter, end in moves])
        self.matter = tuple(matter)
        if states < 1 or letters < 1:
            raise BadMachine("a machine has at least one state and one letter")
        _check_states(states, self.starts)
        _check_moves(states, letters, self.moves)
        _check_states(states, self.matter)
        self.following = _following(self.moves)


def known(machine, course):
    """The states in which hidden runs that fit the course end, ascending."""
    for letter in course:
        if not 0 <= letter < machine.letters:
            raise BadMachine("the machine does not have the letter")
    found = sorted(machine.starts)
    for letter in course:
        found = states_after(machine, found, letter)
    return found


def sure(machine, course):
    """Whether the matter holds after a course: "yes", "no", "open", or "clash" if no hidden run fits."""
    found = known(machine, course)
    if not found:
        return "clash"
    inside = [state for state in found if state in machine.matter]
    if len(inside) == len(found):
        return "yes"
    return "open" if inside else "no"


def states_after(machine, states, letter):
    """The states to which a move with the letter leads from one of the states, ascending."""
    reached = {}
    for state in states:
        for end in machine.following.get((state, letter), []):
            reached[end] = True
    return sorted(reached)


def _check_states(states, listed):
    for state in listed:
        if not 0 <= state < states:
            raise BadMachine("the machine does not have the state")
    if len(set(listed)) != len(listed):
        raise BadMachine("the states of a list are different")


def _check_moves(states, letters, moves):
    for state, letter, end in moves:
        if not 0 <= state < states or not 0 <= end < states or not 0 <= letter < letters:
            raise BadMachine("a move is from a state with a letter to a state")
    if len(set(moves)) != len(moves):
        raise BadMachine("the moves are different")


def _following(moves):
    found = {}
    for state, letter, end in moves:
        found.setdefault((state, letter), []).append(end)
    return found
