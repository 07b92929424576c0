"""Programs that step down tells: what houses answer by the names around them, of which neighbours alone are unlike."""

from roundwright.basics import is_line_of, is_tuple_of, is_within
from roundwright.errors import BadColouring, BadNumber, NoProgram
from roundwright.gates import least_common, stepped_with_sets
from roundwright.nets import around_ring
from roundwright.problems import MOST_HOUSES, check_ring
from roundwright.rows import some_beside
from roundwright.webs import loops_of, web_of

_MOST_ROUNDS = 6
_MOST_NAMES = 200


class StepProgram:
    """For each name a place of a web stepped down, and the gates through which places become labels."""

    def __init__(self, problem, rounds, names):
        web = web_of(problem)
        self.steps = []
        for _ in range(2 * rounds):
            web, sets = stepped_with_sets(web)
            self.steps.append(sets)
        loops = loops_of(web)
        self.goals = [loops[0]] * names if loops else some_beside(web, names)
        if self.goals is None:
            raise NoProgram("no program of so many rounds for so many names")

    def told(self, line):
        """What the names of a line tell: a list, shorter than it by as many as there are halves of rounds."""
        found = [self.goals[name - 1] for name in line]
        for sets in self.steps[::-1]:
            found = [least_common(sets[one], sets[other]) for one, other in zip(found[:-1], found[1:])]
        return found


def _check(problem, rounds, names):
    check_ring(problem)
    if not is_within(rounds, 0, _MOST_ROUNDS):
        raise BadNumber("rounds")
    if not is_within(names, 1, _MOST_NAMES):
        raise BadNumber("names")


def _are_unlike_beside(line):
    return all([one != other for one, other in zip(line[:-1], line[1:])])


def step_answer(problem, rounds, names, window):
    """The label that a house answers after so many rounds by its window of names up to a number."""
    _check(problem, rounds, names)
    if not is_tuple_of(window, 1, names) or len(window) != 2 * rounds + 1 or not _are_unlike_beside(window):
        raise BadNumber("window")
    return StepProgram(problem, rounds, names).told(window)[0]


def step_labelling(problem, rounds, names, colouring):
    """The labelling in which each house of a ring answers by its window."""
    _check(problem, rounds, names)
    if not is_line_of(colouring, MOST_HOUSES, 1, names) or len(colouring) < 2:
        raise BadColouring("not a tuple of 2 to 400 names")
    if not _are_unlike_beside(colouring + colouring[:1]):
        raise BadColouring("neighbours of one name")
    program = StepProgram(problem, rounds, names)
    ahead = around_ring(colouring, 0, rounds)[:rounds]
    behind = around_ring(colouring, len(colouring) - 1, rounds)[rounds + 1:]
    return tuple(program.told(ahead + colouring + behind))
