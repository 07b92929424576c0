"""Rings without a direction: each house bears a label on each of its two sides."""

from roundwright.basics import (
    are_pairs, columns_of, count_lines, is_pair_of, is_within, least_of_lines, rows_of, tied_rounds)
from roundwright.errors import BadLabelling, BadNumber, BadProblem
from roundwright.problems import MOST_HOUSES

MOST_SIDE_LABELS = 6


def _are_sides(pairs, labels):
    return are_pairs(pairs, 0, labels - 1) and all([one <= other for one, other in pairs])


class SideProblem:
    """A problem on rings without a direction: which labels may stand at a house, and at both ends of a line."""

    def __init__(self, labels, tops, lines):
        if not is_within(labels, 1, MOST_SIDE_LABELS):
            raise BadProblem("labels")
        if not _are_sides(tops, labels):
            raise BadProblem("tops")
        if not _are_sides(lines, labels):
            raise BadProblem("lines")
        self.labels = labels
        self.tops = tuple(sorted(tops))
        self.lines = tuple(sorted(lines))

    def __eq__(self, other):
        if not isinstance(other, SideProblem):
            return False
        return self.labels == other.labels and self.tops == other.tops and self.lines == other.lines


def check_sides(problem):
    """BadProblem(None) unless a SideProblem."""
    if not isinstance(problem, SideProblem):
        raise BadProblem(None)


def _is_side_labelling(thing, labels):
    if not isinstance(thing, tuple) or not 1 <= len(thing) <= MOST_HOUSES:
        return False
    return all([is_pair_of(pair, 0, labels - 1) for pair in thing])


def _put_ascending(one, other):
    return (min(one, other), max(one, other))


def _first_side_break(problem, labelling):
    for place, (one, other) in enumerate(labelling):
        if _put_ascending(one, other) not in problem.tops:
            return ("top", place)
        following = labelling[(place + 1) % len(labelling)][0]
        if _put_ascending(other, following) not in problem.lines:
            return ("line", place)
    return None


def is_right_sides(problem, thing):
    """Whether a thing is a right side labelling for the problem."""
    check_sides(problem)
    return _is_side_labelling(thing, problem.labels) and _first_side_break(problem, thing) is None


def first_side_break(problem, labelling):
    """None for a right side labelling, otherwise its first house or line that is not right."""
    check_sides(problem)
    if not _is_side_labelling(labelling, problem.labels):
        raise BadLabelling("not a side labelling of labels of the problem")
    return _first_side_break(problem, labelling)


def turned(labelling):
    """The same side labelling, told along the ring the other way."""
    if not _is_side_labelling(labelling, MOST_SIDE_LABELS):
        raise BadLabelling("not a side labelling")
    return tuple([(other, one) for one, other in labelling[::-1]])


def side_steps(problem):
    """The pairs that lead from side to side: at a house from its first to its second side, and on along a line.

    A label at a first side is its own number, at a second side it has the number of labels added. So a side
    labelling of n houses is a closed walk of 2 * n steps from some label at a first side.
    """
    many = problem.labels
    found = []
    for one, other in problem.tops:
        found.extend([(one, many + other), (other, many + one)])
    for one, other in problem.lines:
        found.extend([(many + one, other), (many + other, one)])
    return found


def _rounds(problem, size):
    # For each label at the first side of the first house the sets allowed along the ring.
    full = (1 << problem.labels) - 1
    columns = columns_of(2 * problem.labels, side_steps(problem))
    return tied_rounds(columns, [full, full << problem.labels] * size)


def _check_size(problem, size):
    check_sides(problem)
    if not is_within(size, 1, MOST_HOUSES):
        raise BadNumber("size")


def some_sides(problem, size):
    """The least right side labelling of so many houses, None without one."""
    _check_size(problem, size)
    many = problem.labels
    line = least_of_lines(rows_of(2 * many, side_steps(problem)), _rounds(problem, size))
    if line is None:
        return None
    return tuple([(line[2 * place], line[2 * place + 1] - many) for place in range(size)])


def how_many_sides(problem, size):
    """How many right side labellings of so many houses there are."""
    _check_size(problem, size)
    rows = rows_of(2 * problem.labels, side_steps(problem))
    return sum([count_lines(rows, allowed) for allowed in _rounds(problem, size)])
