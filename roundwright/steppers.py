"""Steppers: houses of few states that step, round by round, by their own and their neighbours' states."""

from roundwright.basics import are_answers, are_within, is_listed, is_within
from roundwright.errors import BadWork

_MOST_STATES = 6
_MOST_FIRST = 12


class Stepper:
    """The states in which houses begin, by their names, and the state to which each round leads."""

    def __init__(self, states, first, steps):
        if not is_within(states, 1, _MOST_STATES):
            raise BadWork("states")
        if not is_listed(first) or not 1 <= len(first) <= _MOST_FIRST or not are_within(first, 0, states - 1):
            raise BadWork("first")
        sides = list(range(states + 1))
        triples = [(left, own, right) for left in sides for own in range(states) for right in sides]
        if not are_answers(steps, triples, states):
            raise BadWork("steps")
        self.states = states
        self.first = tuple(first)
        self.steps = {triple: steps[triple] for triple in triples}

    def __eq__(self, other):
        if not isinstance(other, Stepper):
            return False
        return self.states == other.states and self.first == other.first and self.steps == other.steps


def check_stepper(stepper):
    """BadWork(None) unless a Stepper."""
    if not isinstance(stepper, Stepper):
        raise BadWork(None)


def begin_state(stepper, name):
    """The state in which a house of this name begins."""
    return stepper.first[name % len(stepper.first)]
