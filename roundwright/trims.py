"""Trimmed sets: which labels the root of a full tree can bear, if all its houses bear labels of a set."""

from roundwright.basics import are_numbers, is_within
from roundwright.errors import BadLabels, BadNumber
from roundwright.treeproblems import check_tree_problem

_MOST_HEIGHT = 1000000


def check_labels(problem, some):
    """BadLabels unless a list of labels of the problem, no two alike."""
    if not are_numbers(some, 0, problem.labels - 1):
        raise BadLabels("not a list of labels of the problem, no two alike")


def rows_within(problem, some):
    """The ascending list of the rows of which all labels are in a set."""
    return [(label, below) for label, below in problem.rows if label in some and all([one in some for one in below])]


def _sinking(problem, some):
    # The sets for heights 0, 1 .., each a part of the one ahead of it, up to the first one that stays the same.
    found = [tuple(sorted(some))]
    while True:
        below = found[-1]
        able = {label: True for label, _ in rows_within(problem, below)}
        on = tuple([label for label in below if label in able])
        if on == below:
            return found
        found.append(on)


def roots(problem, some, height):
    """The labels that the root of the full tree of this height can bear, if all houses bear labels of the set."""
    check_tree_problem(problem)
    check_labels(problem, some)
    if not is_within(height, 0, _MOST_HEIGHT):
        raise BadNumber("height")
    sets = _sinking(problem, some)
    return sets[min(height, len(sets) - 1)]


def trim(problem, some):
    """As trimmed, of a set of labels of the problem."""
    return _sinking(problem, some)[-1]


def trimmed(problem, some):
    """The labels that the roots of all full trees can bear, if all houses bear labels of the set."""
    check_tree_problem(problem)
    check_labels(problem, some)
    return trim(problem, some)


def steady(problem, some):
    """The least height from which on the root can bear just the trimmed labels."""
    check_tree_problem(problem)
    check_labels(problem, some)
    return len(_sinking(problem, some)) - 1
