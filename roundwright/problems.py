"""Problems: which labels neighbours may bear beside one another, and the labellings that are right for them."""

from roundwright.basics import (
    are_numbers, are_pairs, bits_of, columns_of, count_lines, is_line_of, is_within, least_of_lines, rows_of, tied,
    tied_rounds)
from roundwright.errors import BadLabelling, BadNumber, BadProblem

MOST_LABELS = 12
MOST_HOUSES = 400


def _check_pairs(labels, pairs):
    if not is_within(labels, 1, MOST_LABELS):
        raise BadProblem("labels")
    if not are_pairs(pairs, 0, labels - 1):
        raise BadProblem("pairs")


class RingProblem:
    """A problem on rings: the number of its labels, and the pairs (a, b) such that b may stand next behind a."""

    def __init__(self, labels, pairs):
        _check_pairs(labels, pairs)
        self.labels = labels
        self.pairs = tuple(sorted(pairs))

    def __eq__(self, other):
        return isinstance(other, RingProblem) and self.labels == other.labels and self.pairs == other.pairs


class PathProblem:
    """A problem on paths: labels and pairs as on rings, and the labels that may stand first and last."""

    def __init__(self, labels, pairs, starts, ends):
        _check_pairs(labels, pairs)
        if not are_numbers(starts, 0, labels - 1):
            raise BadProblem("starts")
        if not are_numbers(ends, 0, labels - 1):
            raise BadProblem("ends")
        self.labels = labels
        self.pairs = tuple(sorted(pairs))
        self.starts = tuple(sorted(starts))
        self.ends = tuple(sorted(ends))

    def __eq__(self, other):
        if not isinstance(other, PathProblem):
            return False
        if self.labels != other.labels or self.pairs != other.pairs:
            return False
        return self.starts == other.starts and self.ends == other.ends


def check_problem(problem):
    """BadProblem(None) unless a RingProblem or PathProblem."""
    if not isinstance(problem, (RingProblem, PathProblem)):
        raise BadProblem(None)


def check_ring(problem):
    """BadProblem(None) unless a RingProblem."""
    if not isinstance(problem, RingProblem):
        raise BadProblem(None)


def problem_rows(problem):
    """For each label the set of the labels that may stand next behind it."""
    return rows_of(problem.labels, problem.pairs)


def problem_columns(problem):
    """For each label the set of the labels that may stand next ahead of it."""
    return columns_of(problem.labels, problem.pairs)


def all_labels(problem):
    """The set of all labels of a problem."""
    return (1 << problem.labels) - 1


def is_labelling(problem, thing):
    """Whether a thing is a labelling of labels of the problem."""
    return is_line_of(thing, MOST_HOUSES, 0, problem.labels - 1)


def _first_break(problem, labelling):
    ring = isinstance(problem, RingProblem)
    last = len(labelling) - 1
    rows = problem_rows(problem)
    if not ring and labelling[0] not in problem.starts:
        return ("start", 0)
    for place in range(last + 1 if ring else last):
        following = labelling[place + 1] if place < last else labelling[0]
        if not rows[labelling[place]] >> following & 1:
            return ("pair", place)
    if not ring and labelling[last] not in problem.ends:
        return ("end", last)
    return None


def is_right(problem, thing):
    """Whether a thing is a right labelling for the problem."""
    check_problem(problem)
    return is_labelling(problem, thing) and _first_break(problem, thing) is None


def first_break(problem, labelling):
    """None for a right labelling, otherwise the first place at which it is none, and what is wrong there."""
    check_problem(problem)
    if not is_labelling(problem, labelling):
        raise BadLabelling("not a labelling of labels of the problem")
    return _first_break(problem, labelling)


def _line_choices(problem, allowed):
    """Lists of sets such that the walks along one of them are the right labellings within the sets allowed.

    They are told by ascending first labels; no labelling is in two of them.
    """
    if isinstance(problem, RingProblem):
        return tied_rounds(problem_columns(problem), allowed)
    return [tied(allowed, bits_of(problem.starts), bits_of(problem.ends))]


def least_right_line(problem, allowed):
    """The least right labelling with a label of the set allowed at each place, None without one."""
    return least_of_lines(problem_rows(problem), _line_choices(problem, allowed))


def count_right_lines(problem, allowed):
    """How many right labellings have a label of the set allowed at each place."""
    rows = problem_rows(problem)
    return sum([count_lines(rows, choice) for choice in _line_choices(problem, allowed)])


def _check_size(problem, size):
    check_problem(problem)
    if not is_within(size, 1, MOST_HOUSES):
        raise BadNumber("size")


def some_labelling(problem, size):
    """The least right labelling of so many houses, None without one."""
    _check_size(problem, size)
    return least_right_line(problem, [all_labels(problem)] * size)


def how_many(problem, size):
    """How many right labellings of so many houses there are."""
    _check_size(problem, size)
    return count_right_lines(problem, [all_labels(problem)] * size)
