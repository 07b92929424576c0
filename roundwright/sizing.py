"""The sizes at which a problem has right labellings, and the lengths of the rounds of a label."""

from math import lcm

from roundwright.basics import are_numbers, bits_of, return_sizes, spread
from roundwright.errors import BadNumber, TooMany
from roundwright.parts import check_label, round_period
from roundwright.problems import MOST_LABELS, PathProblem, RingProblem, check_problem, problem_rows
from roundwright.sizes import least_sizes, least_told

# Walks among at most 12 labels repeat their numbers of steps from some size below this one on.
_SURE_SIZE = 144
_MOST_LENGTHS = 12


def _common_period(problem):
    # All that walks of some number of steps lead to repeats itself with this period.
    period = 1
    for label in range(problem.labels):
        period = lcm(period, max(1, round_period(problem, label)))
    return period


def _told_sizes(period, found):
    size = _SURE_SIZE + period
    return least_told(_SURE_SIZE, period, [at in found for at in range(1, size + 1)])


def _path_sizes(problem, most):
    # The sizes up to most at which walks lead from a start to an end.
    rows = problem_rows(problem)
    ends = bits_of(problem.ends)
    held = bits_of(problem.starts)
    found = {}
    for size in range(1, most + 1):
        if held & ends:
            found[size] = True
        held = spread(rows, held)
    return found


def _ring_sizes(problem, most):
    rows = problem_rows(problem)
    found = {}
    for label in range(problem.labels):
        for size in return_sizes(rows, label, most):
            found[size] = True
    return found


def sizes_of(problem):
    """The least Sizes of all numbers of houses for which there is a right labelling."""
    check_problem(problem)
    period = _common_period(problem)
    most = _SURE_SIZE + period
    if isinstance(problem, PathProblem):
        return _told_sizes(period, _path_sizes(problem, most))
    return _told_sizes(period, _ring_sizes(problem, most))


def round_sizes(problem, label):
    """The least Sizes of the lengths of the rounds of a label."""
    check_problem(problem)
    check_label(problem, label)
    period = max(1, round_period(problem, label))
    lengths = return_sizes(problem_rows(problem), label, _SURE_SIZE + period)
    return _told_sizes(period, {size: True for size in lengths})


def problem_of_sizes(sizes):
    """A PathProblem of few labels, in a line, with right labellings of just these sizes."""
    least = least_sizes(sizes)
    labels = least.begin + least.period
    if labels > MOST_LABELS:
        raise TooMany(MOST_LABELS)
    pairs = [(label, label + 1) for label in range(labels - 1)] + [(labels - 1, least.begin)]
    return PathProblem(labels, pairs, [0], [label for label in range(labels) if least.told[label]])


def flower(lengths):
    """The RingProblem in which label 0 has one round of each of these lengths, and what they make together."""
    if not are_numbers(lengths, 1, _MOST_LENGTHS) or not 1 <= len(lengths) <= _MOST_LENGTHS:
        raise BadNumber("lengths")
    labels = 1 + sum([length - 1 for length in lengths])
    if labels > MOST_LABELS:
        raise TooMany(MOST_LABELS)
    pairs = []
    first = 1
    for length in lengths:
        line = [0] + list(range(first, first + length - 1)) + [0]
        pairs.extend(list(zip(line[:-1], line[1:])))
        first += length - 1
    return RingProblem(labels, pairs)
