"""All states of what was made of a program, and what each step does there."""

from leanbundle.made import ITSELF, way_of_doing
from leanbundle.play import Play
from leanbundle.programs import is_risky, row_at
from leanbundle.runs import state_of, steps_of

# Stands in the place of the number of a state where something has failed.
FAILED = -1


class Machine:
    """The states that runs without a failure have in what was made, numbered as they are met from 0.

    An outcome is (events, risks, next), as in a user table, but next is the number of a state.
    """

    def __init__(self, program, made):
        source, lot, layout = way_of_doing(program, made)
        self.original = program
        self.steps = steps_of(program)
        self.states = []
        self.numbers = {}
        # For each state a Play that stands there, and the outcomes of all steps, or None as long as nobody asked.
        self.plays = []
        self.outcomes = []
        # For each state the steps by which it was met.
        self.ways = []
        # The rows whose turn came in a step whose outcome was asked for.
        self.reached = {}
        # For each (place, need) that was lacking at such a turn, the steps to its first one.
        self.lacks = {}
        self.meet(Play(source, lot, layout, None), [])

    def meet(self, play, steps):
        """The number of the state in which it stands behind these steps."""
        state = state_of(play)
        if state not in self.numbers:
            self.numbers[state] = len(self.states)
            self.states.append(state)
            self.plays.append(play)
            self.outcomes.append(None)
            self.ways.append(steps)
        return self.numbers[state]

    def outcomes_of(self, number):
        """The outcomes of all steps, in order, from a state."""
        if self.outcomes[number] is None:
            self.outcomes[number] = [self.outcome_of(number, step) for step in self.steps]
        return self.outcomes[number]

    def outcome_of(self, number, step):
        play = self.plays[number].branch()
        play.take(step)
        steps = self.ways[number] + [step]
        for place, needs in play.came.items():
            self.reached[place] = True
            for need in needs:
                self.lacks.setdefault((place, need), steps)
        # A row that is not risky in the program is never told to fail by a run of it.
        risks = [risk for risk in play.risks if is_risky(row_at(self.original, risk[0]))]
        return (tuple(play.seen), tuple(sorted(risks)), FAILED if play.failed else self.meet(play, steps))

    def explore(self):
        """The outcomes from all states, which are numbered and met breadth first if nothing was asked for before."""
        number = 0
        while number < len(self.states):
            self.outcomes_of(number)
            number += 1
        return list(self.outcomes)


def machine_of(program):
    """The machine of the program itself."""
    return Machine(program, ITSELF)


def compare(first, second, absent=()):
    """(pairs, run) of the machines of a program and of what was made of it, by runs without the absent steps.

    If all of these have equal events, pairs is the list of all pairs of numbers of states that they have, and
    run is None; else pairs is None, and run has unlike events and as few steps as any.
    """
    pairs = [(0, 0)]
    ways = {(0, 0): []}
    at = 0
    while at < len(pairs):
        pair = pairs[at]
        at += 1
        for step, one, other in zip(first.steps, first.outcomes_of(pair[0]), second.outcomes_of(pair[1])):
            if step in absent:
                continue
            steps = ways[pair] + [step]
            if not is_like(one, other):
                return (None, (steps, unlike_row(one, other)))
            behind = (one[2], other[2])
            if one[2] != FAILED and behind not in ways:
                ways[behind] = steps
                pairs.append(behind)
    return (pairs, None)


def is_like(one, other):
    """Whether two outcomes of a step have equal events, whichever row fails in it.

    Equal events tell that something has failed in both or in neither.
    """
    return one[0] == other[0] and one[1] == other[1]


def unlike_row(one, other):
    """A row by whose failing two outcomes of a step are told apart, None if they are so without it."""
    if one[0] != other[0]:
        return None
    return min([risk[0] for risk in one[1] + other[1] if risk not in one[1] or risk not in other[1]])


def is_harmless(first, second):
    """Whether every run has equal events in the machines of a program and of what was made of it [15]."""
    return compare(first, second)[1] is None
