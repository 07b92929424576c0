"""Works: what houses do round by round, be it told by a Stepper, a Table or a Program."""

from roundwright.basics import is_within
from roundwright.errors import BadNet, BadNumber, BadWork
from roundwright.nets import is_net
from roundwright.neighbours import LEFT, RIGHT, neighbour
from roundwright.problems import RingProblem
from roundwright.stages import Program, rounds_of
from roundwright.steppers import Stepper, begin_state
from roundwright.tables import Table
from roundwright.windowruns import window_answer

_MOST_ROUNDS = 400


def _runs_on(work, kind):
    if not isinstance(kind, str) or kind not in ("ring", "path"):
        return False
    if isinstance(work, Stepper):
        return True
    ring = isinstance(work, Table) or isinstance(work.problem, RingProblem)
    return kind == ("ring" if ring else "path")


def check_work(work, kind, net, rounds):
    """The errors of in_rounds."""
    if not isinstance(work, (Stepper, Table, Program)):
        raise BadWork(None)
    if not _runs_on(work, kind):
        raise BadNumber("kind")
    if not is_net(net):
        raise BadNet("not a net")
    if isinstance(work, Table) and (len(net) < 2 * work.rounds + 1 or max(net) > work.names):
        raise BadNet("not a net on which the table runs")
    if not is_within(rounds, 0, _MOST_ROUNDS):
        raise BadNumber("rounds")


def first_state(work, name):
    """The state of a house that has done no round."""
    return begin_state(work, name) if isinstance(work, Stepper) else (name,)


def next_state(work, left, own, right):
    """The state to which a round leads; None stands for nobody at a side."""
    if isinstance(work, Stepper):
        one = work.states if left is None else left
        other = work.states if right is None else right
        return work.steps[(one, own, other)]
    return (0 if left is None else left[0],) + own + (0 if right is None else right[-1],)


def own_rounds(work):
    """How many rounds a work has of its own, None for a Stepper."""
    if isinstance(work, Stepper):
        return None
    return work.rounds if isinstance(work, Table) else rounds_of(work)


def last_answer(work, state):
    """What a house answers that has done all rounds."""
    if isinstance(work, Stepper):
        return state
    return work.answers[state] if isinstance(work, Table) else window_answer(work, state)


def in_rounds(work, kind, net, rounds):
    """The states of all houses after so many rounds."""
    check_work(work, kind, net, rounds)
    size = len(net)
    sides = [[neighbour(kind, size, place, side) for side in (LEFT, RIGHT)] for place in range(size)]
    states = [first_state(work, name) for name in net]
    for _ in range(rounds):
        after = []
        for own, beside in zip(states, sides):
            left, right = [None if at is None else states[at] for at in beside]
            after.append(next_state(work, left, own, right))
        states = after
    return tuple(states)
