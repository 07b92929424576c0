"""States: the two labels of a house of a ring without a direction, and the steps from house to house."""

from roundwright.basics import is_pair_of, is_within, least_line, numbers_of, rows_of, tied
from roundwright.errors import BadNumber, BadState, TooMany
from roundwright.problems import MOST_LABELS, RingProblem
from roundwright.sides import MOST_SIDE_LABELS, check_sides

_MOST_STEPS = 400


def mirror(state):
    """The state told from the other side of the house."""
    if not is_pair_of(state, 0, MOST_SIDE_LABELS - 1):
        raise BadState("not a pair of labels")
    return (state[1], state[0])


def all_states(problem):
    """The ascending list of the states of a SideProblem."""
    found = {(one, other): True for one, other in problem.tops}
    for one, other in problem.tops:
        found[(other, one)] = True
    return sorted(list(found))


def state_steps(problem):
    """The ascending list of the steps, each a pair of places in the list of all states."""
    ties = {(one, other): True for one, other in problem.lines}
    for one, other in problem.lines:
        ties[(other, one)] = True
    held = all_states(problem)
    return [(at, by) for at, state in enumerate(held) for by, later in enumerate(held) if (state[1], later[0]) in ties]


def state_rows(problem):
    """For each place of a state the set of the places to which steps lead."""
    return rows_of(len(all_states(problem)), state_steps(problem))


def state_columns(problem):
    """For each place of a state the set of the places from which steps lead to it."""
    return rows_of(len(all_states(problem)), [(by, at) for at, by in state_steps(problem)])


def is_state(problem, thing):
    """Whether a thing is a state of the problem."""
    return is_pair_of(thing, 0, problem.labels - 1) and (min(thing), max(thing)) in problem.tops


def check_state(problem, state):
    """BadProblem(None) unless a SideProblem, BadState unless one of its states."""
    check_sides(problem)
    if not is_state(problem, state):
        raise BadState("not a state of the problem")


def states(problem):
    """The ascending list of the states of a problem."""
    check_sides(problem)
    return all_states(problem)


def next_states(problem, state):
    """The ascending list of the states to which a step leads from this one."""
    check_state(problem, state)
    held = all_states(problem)
    return [held[place] for place in numbers_of(state_rows(problem)[held.index(state)])]


def are_state_steps(problem, thing):
    """Whether a thing is a tuple of at least one state with a step from each to the next one."""
    if not isinstance(thing, tuple) or thing == () or not all([is_state(problem, state) for state in thing]):
        return False
    places = {state: place for place, state in enumerate(all_states(problem))}
    rows = state_rows(problem)
    return all([rows[places[one]] >> places[other] & 1 for one, other in zip(thing[:-1], thing[1:])])


def is_state_walk(problem, thing):
    """Whether a thing is a walk of the problem's states."""
    check_sides(problem)
    return are_state_steps(problem, thing)


def least_state_walk(problem, one, other, steps):
    """The least walk of so many steps from a state to another one, None without one."""
    held = all_states(problem)
    allowed = tied([(1 << len(held)) - 1] * (steps + 1), 1 << held.index(one), 1 << held.index(other))
    line = least_line(state_rows(problem), allowed)
    return None if line is None else tuple([held[place] for place in line])


def walk_of(problem, one, other, steps):
    """The least walk of just so many steps from a state to another one, None without one."""
    check_state(problem, one)
    check_state(problem, other)
    if not is_within(steps, 0, _MOST_STEPS):
        raise BadNumber("steps")
    return least_state_walk(problem, one, other, steps)


def as_ring(problem):
    """The pair of the RingProblem whose labels are the places of the states, and the tuple of the states."""
    check_sides(problem)
    held = all_states(problem)
    if len(held) > MOST_LABELS:
        raise TooMany(MOST_LABELS)
    return (RingProblem(max(1, len(held)), state_steps(problem)), tuple(held))
