"""Least walks of a problem, of very many steps too."""

from roundwright.basics import are_numbers, bits_of, is_within, least_line, tied
from roundwright.errors import BadNumber
from roundwright.problems import all_labels, check_problem, problem_rows

_MOST_STEPS = 100000


def least_walk(problem, begins, ends, steps):
    """As least_walk_of, of lists of labels of the problem and any number of steps."""
    allowed = tied([all_labels(problem)] * (steps + 1), bits_of(begins), bits_of(ends))
    return least_line(problem_rows(problem), allowed)


def least_walk_of(problem, begins, ends, steps):
    """The least walk of so many steps from one of begins to one of ends, None without one."""
    check_problem(problem)
    if not are_numbers(begins, 0, problem.labels - 1):
        raise BadNumber("begins")
    if not are_numbers(ends, 0, problem.labels - 1):
        raise BadNumber("ends")
    if not is_within(steps, 0, _MOST_STEPS):
        raise BadNumber("steps")
    return least_walk(problem, begins, ends, steps)
