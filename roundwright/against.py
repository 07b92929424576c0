"""Trees against programs: for each program of so many rounds one on which it is not right, if there is no star."""

from roundwright.basics import is_within
from roundwright.errors import BadNumber, BadProblem
from roundwright.fullfoes import FullFoe
from roundwright.linefoes import LineFoe
from roundwright.treechains import chain_or_hub
from roundwright.treeproblems import check_tree_problem
from roundwright.treeshoots import lowest_shoots

_MOST_ROUNDS = 40
_NO_END = 1000000
# Lines of great blocks are tried only where few rounds make them short.
_SHORT = 10


def _power(number, times):
    found = 1
    for _ in range(times):
        found = found * number
    return found


def _against_hub(problem, program, rounds):
    # What is told has no more houses than are enough for these rounds.
    most = 8 * (rounds + 1) * (rounds + 1) * _power(problem.arms, 3 * rounds + 2)
    names = 0
    for heard in range(rounds + 1):
        foe = FullFoe(problem, program, rounds, heard, names)
        trial = foe.wrong_trial()
        names = foe.names
        if trial is not None:
            return trial.tree
        if heard == 0 and rounds > 0:
            lines = LineFoe(problem, program, rounds)
            lines.names = names
            trial = lines.wrong_trial(1 if rounds > _SHORT else 2)
            names = lines.names
            if trial is not None and len(trial.tree) <= most:
                return trial.tree
    return None


def against(problem, program, rounds):
    """A tree on which what all houses answer by the program, each by its ball of so many rounds, is not right."""
    check_tree_problem(problem)
    if lowest_shoots(problem, False) is not None:
        raise BadProblem("star")
    if not is_within(rounds, 0, _MOST_ROUNDS):
        raise BadNumber("rounds")
    if chain_or_hub(problem)[1] is not None:
        return tuple(_against_hub(problem, program, rounds))
    return tuple(LineFoe(problem, program, rounds).wrong_trial(_NO_END).tree)
