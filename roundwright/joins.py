"""Problems made of problems: one beside the other, both at once, and told backwards."""

from roundwright.errors import BadProblem, TooMany
from roundwright.problems import MOST_LABELS, PathProblem, RingProblem, check_problem


def check_kinds(problem, other):
    """BadProblem(None) unless both are problems, BadProblem("kind") unless both are of one kind."""
    check_problem(problem)
    check_problem(other)
    if isinstance(problem, RingProblem) != isinstance(other, RingProblem):
        raise BadProblem("kind")


def joined(problem, other):
    """The problem of the labels of both, those of other behind those of problem."""
    check_kinds(problem, other)
    many = problem.labels
    if many + other.labels > MOST_LABELS:
        raise TooMany(MOST_LABELS)
    pairs = problem.pairs + tuple([(many + one, many + two) for one, two in other.pairs])
    if isinstance(problem, RingProblem):
        return RingProblem(many + other.labels, pairs)
    starts = problem.starts + tuple([many + label for label in other.starts])
    ends = problem.ends + tuple([many + label for label in other.ends])
    return PathProblem(many + other.labels, pairs, starts, ends)


def _crossed_labels(some, others, many):
    return [one * many + two for one in some for two in others]


def crossed(problem, other):
    """The problem whose labels stand for a label of problem and a label of other at once."""
    check_kinds(problem, other)
    many = other.labels
    if problem.labels * many > MOST_LABELS:
        raise TooMany(MOST_LABELS)
    pairs = [(a * many + c, b * many + d) for a, b in problem.pairs for c, d in other.pairs]
    if isinstance(problem, RingProblem):
        return RingProblem(problem.labels * many, pairs)
    starts = _crossed_labels(problem.starts, other.starts, many)
    ends = _crossed_labels(problem.ends, other.ends, many)
    return PathProblem(problem.labels * many, pairs, starts, ends)


def backwards(problem):
    """The problem whose right labellings are those of problem, told from the last house to the first one."""
    check_problem(problem)
    pairs = [(other, one) for one, other in problem.pairs]
    if isinstance(problem, RingProblem):
        return RingProblem(problem.labels, pairs)
    return PathProblem(problem.labels, pairs, problem.ends, problem.starts)
