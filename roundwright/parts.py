"""Parts: which labels of a problem are useful, and which of them stand in rounds together."""

from roundwright.basics import bits_of, closure, is_within, least_of, mates_of, numbers_of, period_of, spread
from roundwright.errors import BadNumber
from roundwright.problems import PathProblem, check_problem, problem_columns, problem_rows


def useful(problem):
    """The ascending tuple of the labels that stand in some right labelling, of any size."""
    check_problem(problem)
    after = closure(problem_rows(problem))
    if not isinstance(problem, PathProblem):
        return tuple([label for label, row in enumerate(after) if row >> label & 1])
    ahead = closure(problem_columns(problem))
    begun = bits_of(problem.starts) | spread(after, bits_of(problem.starts))
    ended = bits_of(problem.ends) | spread(ahead, bits_of(problem.ends))
    return tuple(numbers_of(begun & ended))


def round_mates(problem):
    """For each label the set of the labels that stand in a round together with it."""
    return mates_of(problem_rows(problem))


def strong_parts(problem):
    """The ascending list of the parts: tuples of the useful labels that stand in rounds together."""
    labels = useful(problem)
    mates = round_mates(problem)
    # Whatever stands in a round with a useful label is useful, so no other label comes in.
    return [tuple(numbers_of(mates[label])) for label in labels if mates[label] and least_of(mates[label]) == label]


def check_label(problem, label):
    """BadNumber("label") unless a label of the problem."""
    if not is_within(label, 0, problem.labels - 1):
        raise BadNumber("label")


def round_period(problem, label):
    """The greatest number that divides the lengths of all rounds of a label, 0 if it has none."""
    check_problem(problem)
    check_label(problem, label)
    return period_of(problem_rows(problem), label)
