"""Walks down trees within a set of labels, and sets of labels that such walks of all greater lengths join."""

from roundwright.basics import bits_of, is_within, least_line, mates_of, numbers_of, period_of, rows_of, spread, tied
from roundwright.errors import BadNumber
from roundwright.treeproblems import check_tree_problem
from roundwright.trims import check_labels, rows_within

_MOST_STEPS = 10000
# Among at most 12 labels of which each leads to each, by walks without a common divisor, there are walks of each
# number of steps from here on.
_SURE_STEPS = 122


def walk_rows(problem, some):
    """For each label the set of the labels to which a step of a walk in the set leads."""
    pairs = {(label, one): True for label, below in rows_within(problem, some) for one in below}
    return rows_of(problem.labels, list(pairs))


def least_walk_in(problem, some, top, bottom, steps):
    """The least walk in a set of so many steps from a label to another one, None without one."""
    allowed = tied([bits_of(some)] * (steps + 1), 1 << top, 1 << bottom)
    return least_line(walk_rows(problem, some), allowed)


def walk(problem, some, top, bottom, steps):
    """The least walk in a set of so many steps from top to bottom, None without one."""
    check_tree_problem(problem)
    check_labels(problem, some)
    for label, part in ((top, "top"), (bottom, "bottom")):
        if not is_within(label, 0, problem.labels - 1) or label not in some:
            raise BadNumber(part)
    if not is_within(steps, 0, _MOST_STEPS):
        raise BadNumber("steps")
    return least_walk_in(problem, some, top, bottom, steps)


def free_steps(problem, some, few):
    """As free_from, of two sets of labels of the problem."""
    if not few or not all([label in some for label in few]):
        return None
    rows = walk_rows(problem, some)
    wanted = bits_of(few)
    reached = [1 << label for label in few]
    least = 0
    for steps in range(_SURE_STEPS + 1):
        if not all([wanted & ~held == 0 for held in reached]):
            least = steps + 1
        reached = [spread(rows, held) for held in reached]
    return least if least <= _SURE_STEPS and _is_free(rows, few) else None


def _is_free(rows, few):
    # Whether walks join all labels of a set that is not empty, without a common divisor.
    return mates_of(rows)[few[0]] & bits_of(few) == bits_of(few) and period_of(rows, few[0]) == 1


def free_from(problem, some, few):
    """The least number of steps from which on walks of each number join the labels of few in some; None without one."""
    check_tree_problem(problem)
    check_labels(problem, some)
    check_labels(problem, few)
    return free_steps(problem, some, few)


def greatest_free(problem, some):
    """As free_sets, of a set of labels of the problem."""
    rows = walk_rows(problem, some)
    mates = mates_of(rows)
    found = [tuple(numbers_of(mates[label])) for label in some if mates[label] and period_of(rows, label) == 1]
    return tuple(sorted(set(found)))


def free_sets(problem, some):
    """The ascending tuple of the greatest free sets in a set."""
    check_tree_problem(problem)
    check_labels(problem, some)
    return greatest_free(problem, some)
