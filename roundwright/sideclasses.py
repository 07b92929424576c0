"""The classes of rings without a direction, with papers that show them, and a small judge of these."""

from math import gcd

from roundwright.basics import (
    height_ranks, is_number, is_pair, least_of, mates_of, period_of, return_sizes, rows_of, steps_between)
from roundwright.bends import bends_both_ways
from roundwright.sides import check_sides
from roundwright.sidestates import (
    all_states, are_state_steps, is_state, least_state_walk, mirror, state_rows, state_steps)

# A state that bends has closed walks of all numbers of steps from 1226 on.
_SURE_STEPS = 1230
_PAPER_SIZES = {"never": 2, "loop": 4, "bending": 7, "stiff": 4}


def _returning(problem):
    # The states, ascending, from which closed walks lead.
    mates = mates_of(state_rows(problem))
    return [state for state, held in zip(all_states(problem), mates) if held]


def _bending_both_ways(problem):
    return [state for state in _returning(problem) if bends_both_ways(problem, state)]


def _looped(problem):
    # The states with a step to themselves.
    held = all_states(problem)
    return [held[one] for one, other in state_steps(problem) if one == other]


def side_class(problem):
    """The class of a problem on rings without a direction: "never", "loop", "bending" or "stiff"."""
    check_sides(problem)
    if not _returning(problem):
        return "never"
    bending = _bending_both_ways(problem)
    looped = _looped(problem)
    if [state for state in bending if state in looped]:
        return "loop"
    return "bending" if bending else "stiff"


def _are_ranks(problem, thing):
    if not isinstance(thing, tuple) or len(thing) != len(all_states(problem)):
        return False
    return all([is_number(rank) and rank >= 0 for rank in thing])


def _are_ascending(problem, ranks):
    # Whether no step leads to a lower rank.
    return all([ranks[one] <= ranks[other] for one, other in state_steps(problem)])


def _is_walk_between(problem, thing, one, other):
    return are_state_steps(problem, thing) and thing[0] == one and thing[-1] == other


def _is_closed(problem, thing):
    return are_state_steps(problem, thing) and len(thing) > 1 and thing[0] == thing[-1]


def _lead_both_ways(problem, state, there, back):
    other = mirror(state)
    return _is_walk_between(problem, there, state, other) and _is_walk_between(problem, back, other, state)


def _is_never_paper(problem, paper):
    ranks = paper[1]
    if not _are_ranks(problem, ranks):
        return False
    return all([ranks[one] < ranks[other] for one, other in state_steps(problem)])


def _is_loop_paper(problem, paper):
    _, state, there, back = paper
    if not is_state(problem, state) or state not in _looped(problem):
        return False
    return _lead_both_ways(problem, state, there, back)


def _is_bending_paper(problem, paper):
    _, state, one, other, there, back, ranks = paper
    if not is_state(problem, state) or not _is_closed(problem, one) or not _is_closed(problem, other):
        return False
    if one[0] != state or other[0] != state or gcd(len(one) - 1, len(other) - 1) != 1:
        return False
    if not _lead_both_ways(problem, state, there, back):
        return False
    if not _are_ranks(problem, ranks) or not _are_ascending(problem, ranks):
        return False
    rank_of = {held: rank for held, rank in zip(all_states(problem), ranks)}
    return all([rank_of[looped] != rank_of[mirror(looped)] for looped in _looped(problem)])


def _is_turn(thing):
    if not is_pair(thing) or not is_number(thing[0]) or not is_number(thing[1]):
        return False
    return thing == (0, 0) or (thing[0] >= 2 and 0 <= thing[1] < thing[0])


def _is_turned_rank(problem, ranks, turns, rank):
    # Whether the states of one rank keep to what their turns tell.
    held = all_states(problem)
    here = [place for place in range(len(held)) if ranks[place] == rank]
    many = turns[here[0]][0]
    if [turns[place][0] for place in here] != [many] * len(here):
        return False
    if many == 0:
        return not [place for place in here if held.index(mirror(held[place])) in here]
    steps = [(one, other) for one, other in state_steps(problem) if one in here and other in here]
    return all([(turns[one][1] + 1) % many == turns[other][1] for one, other in steps])


def _is_stiff_paper(problem, paper):
    _, walk, ranks, turns = paper
    if not _is_closed(problem, walk) or not _are_ranks(problem, ranks) or not _are_ascending(problem, ranks):
        return False
    if not isinstance(turns, tuple) or len(turns) != len(ranks) or not all([_is_turn(turn) for turn in turns]):
        return False
    return all([_is_turned_rank(problem, ranks, turns, rank) for rank in sorted(set(ranks))])


_JUDGES = {
    "never": _is_never_paper, "loop": _is_loop_paper, "bending": _is_bending_paper, "stiff": _is_stiff_paper}


def is_side_paper(problem, thing):
    """Whether a thing is a paper of the problem, which shows its class."""
    check_sides(problem)
    if not isinstance(thing, tuple) or thing == () or not isinstance(thing[0], str) or thing[0] not in _JUDGES:
        return False
    judge = _JUDGES[thing[0]]
    return len(thing) == _PAPER_SIZES[thing[0]] and judge(problem, thing)


def _ranks(problem):
    # A number for each state: the same for states of one part, unlike for others, no step leading to a lower one.
    rows = state_rows(problem)
    heights = height_ranks(rows)
    places = [(heights[place], least_of(held | 1 << place)) for place, held in enumerate(mates_of(rows))]
    order = sorted(set(places))
    return tuple([order.index(place) for place in places])


def _turns(problem):
    rows = state_rows(problem)
    held = all_states(problem)
    mates = mates_of(rows)
    turns = []
    for place, state in enumerate(held):
        part = mates[place] | 1 << place
        if not part >> held.index(mirror(state)) & 1:
            turns.append((0, 0))
        elif mates[place] == 0:
            turns.append((2, 0))
        else:
            many = period_of(rows, place)
            turns.append((many, steps_between(rows, least_of(part), place) % many))
    return tuple(turns)


def _fewest_walk(problem, one, other):
    # The least of the walks of fewest steps from a state to another one to which it leads.
    held = all_states(problem)
    return least_state_walk(problem, one, other, steps_between(state_rows(problem), held.index(one), held.index(other)))


def _closed_walks(problem, state):
    # Two closed walks from a state that bends, one of one step more than the other.
    held = all_states(problem)
    sizes = return_sizes(state_rows(problem), held.index(state), _SURE_STEPS)
    size = [one for one, other in zip(sizes[:-1], sizes[1:]) if other == one + 1][0]
    return least_state_walk(problem, state, state, size), least_state_walk(problem, state, state, size + 1)


def side_paper(problem):
    """A paper of the problem."""
    kind = side_class(problem)
    if kind == "never":
        return (kind, _ranks(problem))
    if kind == "stiff":
        state = _returning(problem)[0]
        size = return_sizes(state_rows(problem), all_states(problem).index(state), len(all_states(problem)))[0]
        return (kind, least_state_walk(problem, state, state, size), _ranks(problem), _turns(problem))
    state = _bending_both_ways(problem)[0]
    if kind == "loop":
        looped = _looped(problem)
        state = [one for one in _bending_both_ways(problem) if one in looped][0]
    there = _fewest_walk(problem, state, mirror(state))
    back = _fewest_walk(problem, mirror(state), state)
    if kind == "loop":
        return (kind, state, there, back)
    one, other = _closed_walks(problem, state)
    return (kind, state, one, other, there, back, _ranks(problem))
