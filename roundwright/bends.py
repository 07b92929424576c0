"""Bends: from how many steps on a state of a ring without a direction leads to itself and to its mirror, always."""

from roundwright.basics import is_listed, is_number, is_pair, mates_of, period_of, spread
from roundwright.errors import BadMarks, NotBending
from roundwright.problems import MOST_HOUSES
from roundwright.sidestates import all_states, check_state, least_state_walk, mirror, state_rows

# Of at most 36 states that all lead to one another, by closed walks without a common divisor, each leads to each
# by walks of every number of steps from here on.
_SURE_STEPS = 1226
_MOST_MARKS = 100


def bends_both_ways(problem, state):
    """Whether a state has closed walks without a common divisor and leads to its mirror and back."""
    rows = state_rows(problem)
    held = all_states(problem)
    place = held.index(state)
    if not mates_of(rows)[place] >> held.index(mirror(state)) & 1:
        return False
    return period_of(rows, place) == 1


def _check(problem, state):
    check_state(problem, state)
    if not bends_both_ways(problem, state):
        raise NotBending("this state does not bend both ways")


def _least_bend(problem, state):
    rows = state_rows(problem)
    held = all_states(problem)
    both = [held.index(state), held.index(mirror(state))]
    wanted = 1 << both[0] | 1 << both[1]
    reached = [1 << place for place in both]
    least = 0
    for steps in range(_SURE_STEPS):
        if [led & wanted for led in reached] != [wanted, wanted]:
            least = steps + 1
        reached = [spread(rows, led) for led in reached]
    return least


def bend(problem, state):
    """The least number of steps from which on walks of each number lead from a state and its mirror to both of them."""
    _check(problem, state)
    return _least_bend(problem, state)


def _is_mark(thing, least):
    if not is_pair(thing) or not is_number(thing[0]) or not is_number(thing[1]):
        return False
    return thing[0] >= least and 0 <= thing[1] <= 1


def filled(problem, state, marks):
    """The side labelling of a ring in which marks bear a state or its mirror, with least walks between them."""
    _check(problem, state)
    least = max(1, _least_bend(problem, state))
    if not is_listed(marks) or not 1 <= len(marks) <= _MOST_MARKS or not all([_is_mark(mark, least) for mark in marks]):
        raise BadMarks("not a list of marks that are far enough apart")
    if sum([gap for gap, _ in marks]) > MOST_HOUSES:
        raise BadMarks("more than 400 houses")
    borne = [mirror(state) if way else state for _, way in marks]
    labelling = ()
    for (gap, _), one, other in zip(marks, borne, borne[1:] + borne[:1]):
        labelling = labelling + least_state_walk(problem, one, other, gap)[:-1]
    return labelling
