"""Rounds of a label: closed walks that begin with it."""

from roundwright.basics import is_within, least_line, return_sizes, tied
from roundwright.errors import BadNumber
from roundwright.parts import check_label, round_period
from roundwright.problems import MOST_HOUSES, all_labels, check_problem, problem_columns, problem_rows

# A label of a problem of at most 12 labels that bends has rounds of all sizes from here on.
_SURE_SIZE = 122


def _least_round(problem, label, size):
    allowed = tied([all_labels(problem)] * size, 1 << label, problem_columns(problem)[label])
    return least_line(problem_rows(problem), allowed)


def _check(problem, label):
    check_problem(problem)
    check_label(problem, label)


def round_at(problem, label, size):
    """The least round of a label of so many labels, None without one."""
    _check(problem, label)
    if not is_within(size, 1, MOST_HOUSES):
        raise BadNumber("size")
    return _least_round(problem, label, size)


def shortest_round(problem, label):
    """The least one of the shortest rounds of a label, None without one."""
    _check(problem, label)
    sizes = return_sizes(problem_rows(problem), label, problem.labels)
    return _least_round(problem, label, sizes[0]) if sizes else None


def bends(problem, label):
    """Whether a label has rounds of all sizes from some number on."""
    _check(problem, label)
    return round_period(problem, label) == 1


def bends_from(problem, label):
    """The least number such that a label has rounds of each size from there on, None if it does not bend."""
    if not bends(problem, label):
        return None
    sizes = return_sizes(problem_rows(problem), label, _SURE_SIZE)
    least = _SURE_SIZE
    while least > 1 and least - 1 in sizes:
        least -= 1
    return least
