"""Machines with hidden states: what is known of them after a course of letters."""

from surelyseen.errors import BadMachine


class Machine:
    """A machine; beside what it was made from it holds where its moves lead and what its states mean.

    following: for each state a dict that gives the next states of its moves for each of their letters.
    meaning: for each state whether the matter holds in it.
    """

    def __init__(self, states, letters, starts, moves, matter):
        self.states = states
        self.letters = letters
        self.starts = tuple(starts)
        self.moves = tuple([(state, letter, end) for state, letter, end in moves])
        self.matter = tuple(matter)
        if states < 1 or letters < 1:
            raise BadMachine("a machine has at least one state and one letter")
        _check_states(states, self.starts)
        _check_moves(states, letters, self.moves)
        _check_states(states, self.matter)
        self.following = _following(states, self.moves)
        self.meaning = _meaning(states, self.matter)


def known(machine, course):
    """The states in which hidden runs that fit the course end, ascending."""
    for letter in course:
        if not 0 <= letter < machine.letters:
            raise BadMachine("the machine does not have the letter")
    found = sorted(machine.starts)
    for letter in course:
        found = states_after(machine, found, letter)
    return found


def sure(machine, course):
    """Whether the matter holds after a course: "yes", "no", "open", or "clash" if no hidden run fits."""
    return verdict(machine, known(machine, course))


def verdict(machine, states):
    """What is sure if these are the states in which hidden runs that fit end."""
    if not states:
        return "clash"
    marks = [machine.meaning[state] for state in states]
    if all(marks):
        return "yes"
    return "open" if any(marks) else "no"


def states_after(machine, states, letter):
    """The states to which a move with the letter leads from one of the states, ascending."""
    reached = {}
    for state in states:
        for end in machine.following[state].get(letter, []):
            reached[end] = True
    return sorted(reached)


def all_after(machine, states):
    """For each letter the tuple of the states to which a move with it leads from one of the states, ascending.

    Only the moves that there are cost time, however many letters have none.
    """
    reached = {}
    for state in states:
        for letter, ends in machine.following[state].items():
            reached.setdefault(letter, []).extend(ends)
    return [tuple(sorted(set(reached.get(letter, [])))) for letter in range(machine.letters)]


def _check_states(states, listed):
    for state in listed:
        if not 0 <= state < states:
            raise BadMachine("the machine does not have the state")
    if len(set(listed)) != len(listed):
        raise BadMachine("the states of a list are different")


def _check_moves(states, letters, moves):
    for state, letter, end in moves:
        if not 0 <= state < states or not 0 <= end < states or not 0 <= letter < letters:
            raise BadMachine("a move is from a state with a letter to a state")
    if len(set(moves)) != len(moves):
        raise BadMachine("the moves are different")


def _following(states, moves):
    found = [{} for _ in range(states)]
    for state, letter, end in moves:
        found[state].setdefault(letter, []).append(end)
    return found


def _meaning(states, matter):
    found = [False] * states
    for state in matter:
        found[state] = True
    return found
