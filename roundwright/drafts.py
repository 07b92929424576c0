"""Drafts: labellings in which some houses have no label yet, and the right labellings that fill them."""

from roundwright.basics import is_within
from roundwright.errors import BadDraft, BadNumber
from roundwright.problems import (
    MOST_HOUSES, PathProblem, all_labels, check_problem, count_right_lines, least_right_line, problem_rows)


def is_draft(problem, thing):
    """Whether a thing is a tuple of 1 to 400 labels of the problem and Nones."""
    check_problem(problem)
    if not isinstance(thing, tuple) or not 1 <= len(thing) <= MOST_HOUSES:
        return False
    return all([label is None or is_within(label, 0, problem.labels - 1) for label in thing])


def check_draft(problem, draft):
    """BadDraft unless a draft for the problem."""
    if not is_draft(problem, draft):
        raise BadDraft("not a draft for the problem")


def is_fair(problem, draft):
    """Whether neighbours that have labels, and the ends of a path, bear what may stand there."""
    check_problem(problem)
    check_draft(problem, draft)
    rows = problem_rows(problem)
    ahead = draft[-1]
    if isinstance(problem, PathProblem):
        ahead = None
        if draft[0] is not None and draft[0] not in problem.starts:
            return False
        if draft[-1] is not None and draft[-1] not in problem.ends:
            return False
    for label in draft:
        if ahead is not None and label is not None and not rows[ahead] >> label & 1:
            return False
        ahead = label
    return True


def _allowed(problem, draft):
    return [all_labels(problem) if label is None else 1 << label for label in draft]


def fills(problem, draft):
    """How many right labellings have each label of a draft at its place."""
    check_problem(problem)
    check_draft(problem, draft)
    return count_right_lines(problem, _allowed(problem, draft))


def least_fill(problem, draft):
    """The least right labelling that has each label of a draft at its place, None without one."""
    check_problem(problem)
    check_draft(problem, draft)
    return least_right_line(problem, _allowed(problem, draft))


def check_place(draft, place):
    """BadNumber("place") unless a place of the draft."""
    if not is_within(place, 0, len(draft) - 1):
        raise BadNumber("place")


def free_labels(problem, draft, place):
    """The ascending list of the labels that the house at a place has in some fill of a draft."""
    check_problem(problem)
    check_draft(problem, draft)
    check_place(draft, place)
    found = []
    for label in range(problem.labels):
        if draft[place] is None or draft[place] == label:
            filled = draft[:place] + (label,) + draft[place + 1:]
            if least_right_line(problem, _allowed(problem, filled)) is not None:
                found.append(label)
    return found
