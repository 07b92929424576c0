"""Papers: what shows the class of a problem, and a small judge of it."""

from math import gcd

from roundwright.basics import height_ranks, is_line_of, is_number, numbers_of, steps_between
from roundwright.classes import class_of, is_looped
from roundwright.closedwalks import bends, bends_from, round_at, shortest_round
from roundwright.parts import round_mates, round_period, strong_parts, useful
from roundwright.problems import MOST_HOUSES, check_problem, problem_rows


def _useful_pairs(problem):
    labels = useful(problem)
    return [(one, other) for one, other in problem.pairs if one in labels and other in labels]


def _is_useful_round(problem, thing):
    # Whether a thing is a round of a useful label, of at most 400.
    if not is_line_of(thing, MOST_HOUSES, 0, problem.labels - 1) or thing[0] not in useful(problem):
        return False
    rows = problem_rows(problem)
    return all([rows[thing[at - 1]] >> thing[at] & 1 for at in range(len(thing))])


def _is_loop_paper(problem, thing):
    if len(thing) != 2 or not is_number(thing[1]):
        return False
    return thing[1] in useful(problem) and (thing[1], thing[1]) in problem.pairs


def _is_bending_paper(problem, thing):
    if len(thing) != 3 or not _is_useful_round(problem, thing[1]) or not _is_useful_round(problem, thing[2]):
        return False
    return thing[1][0] == thing[2][0] and gcd(len(thing[1]), len(thing[2])) == 1 and not is_looped(problem)


def _is_mark(thing):
    if not isinstance(thing, tuple) or len(thing) != 3 or not all([is_number(number) for number in thing]):
        return False
    return thing[1] >= 2 and 0 <= thing[2] < thing[1]


def _is_marked_step(one, other):
    rank, period, place = one
    if rank < other[0]:
        return True
    return rank == other[0] and period == other[1] and (place + 1) % period == other[2]


def _is_stiff_paper(problem, thing):
    if len(thing) != 3 or not _is_useful_round(problem, thing[2]):
        return False
    marks = thing[1]
    if not isinstance(marks, tuple) or len(marks) != problem.labels or not all([_is_mark(mark) for mark in marks]):
        return False
    return all([_is_marked_step(marks[one], marks[other]) for one, other in _useful_pairs(problem)])


def _is_never_paper(problem, thing):
    if len(thing) != 2 or not isinstance(thing[1], tuple) or len(thing[1]) != problem.labels:
        return False
    ranks = thing[1]
    if not all([is_number(rank) for rank in ranks]):
        return False
    return all([ranks[one] < ranks[other] for one, other in _useful_pairs(problem)])


_JUDGES = {
    "loop": _is_loop_paper, "bending": _is_bending_paper, "stiff": _is_stiff_paper, "never": _is_never_paper}


def is_paper(problem, thing):
    """Whether a thing is a paper of the problem, which shows its class."""
    check_problem(problem)
    if not isinstance(thing, tuple) or len(thing) < 2 or not isinstance(thing[0], str) or thing[0] not in _JUDGES:
        return False
    judge = _JUDGES[thing[0]]
    return judge(problem, thing)


def _marks(problem):
    rows = problem_rows(problem)
    ranks = height_ranks(rows)
    mates = round_mates(problem)
    labels = useful(problem)
    marks = []
    for label in range(problem.labels):
        if label in labels and mates[label]:
            period = round_period(problem, label)
            first = numbers_of(mates[label])[0]
            marks.append((ranks[label], period, steps_between(rows, first, label) % period))
        else:
            marks.append((ranks[label], 2, 0))
    return tuple(marks)


def paper_of(problem):
    """A paper of the problem."""
    check_problem(problem)
    kind = class_of(problem)
    if kind == "loop":
        return (kind, [one for one in useful(problem) if (one, one) in problem.pairs][0])
    if kind == "bending":
        label = [one for one in useful(problem) if bends(problem, one)][0]
        size = bends_from(problem, label)
        return (kind, round_at(problem, label, size), round_at(problem, label, size + 1))
    if kind == "stiff":
        return (kind, _marks(problem), shortest_round(problem, strong_parts(problem)[0][0]))
    return (kind, tuple(height_ranks(problem_rows(problem))))
