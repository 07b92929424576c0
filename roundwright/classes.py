"""Classes: how many rounds a problem on rings and paths needs."""

from roundwright.closedwalks import bends
from roundwright.parts import strong_parts, useful
from roundwright.problems import check_problem


def is_looped(problem):
    """Whether some useful label may stand next behind itself."""
    return any([(label, label) in problem.pairs for label in useful(problem)])


def class_of(problem):
    """The class of a problem: "loop", "bending", "stiff" or "never"."""
    check_problem(problem)
    if is_looped(problem):
        return "loop"
    if any([bends(problem, label) for label in useful(problem)]):
        return "bending"
    return "stiff" if strong_parts(problem) else "never"
