"""How far menders must ever go: the reach within which each house of each fair draft can be mended."""

from roundwright.basics import bits_of, is_within, least_line, spread
from roundwright.errors import BadNumber
from roundwright.problems import PathProblem, check_problem, problem_columns, problem_rows

_MOST_REACH = 150


class Side:
    """What may stand at one side of a house without a label; rows lead towards the house.

    For each number of steps, free holds the labels that the house can get if so many houses next to it bear labels
    that may all change; held, for each label, those that it can get if that label stands so many steps away and
    must stay; edged those that it can get if the path ends so many steps away.
    """

    def __init__(self, labels, rows, edges):
        self.rows = rows
        self.full = (1 << labels) - 1
        self.edges = edges
        self.free = [self.full]
        self.held = [[1 << label for label in range(labels)]]
        self.edged = [] if edges is None else [edges]

    def go_on(self):
        """Work out one more number of steps."""
        self.free.append(spread(self.rows, self.free[-1]))
        self.held.append([spread(self.rows, held) for held in self.held[-1]])
        if self.edges is not None:
            self.edged.append(spread(self.rows, self.edged[-1]))

    def open_cases(self, reach):
        """What can stand within a reach where the path does not end: for each case what the house can get.

        A case is a pair (steps, label): label stands so many steps away and must stay; or, if it is None, the
        houses nearer than steps + 1 bear labels that may change, and the next one bears none.
        """
        cases = {}
        # More houses with labels ahead of one without leave less to the house: the most of them tell enough.
        steps = max([at for at in range(reach + 1) if at == 0 or self.free[at - 1]])
        cases[(steps, None)] = self.free[steps]
        for label, held in enumerate(self.held[reach]):
            if held:
                cases[(reach + 1, label)] = self.held[reach + 1][label]
        return cases

    def edge_cases(self, reach):
        """What can stand within a reach where the path ends so many steps away: steps, and what the house can get."""
        if self.edges is None:
            return {}
        return {at: self.edged[at] for at in range(reach + 1) if at == 0 or self.edged[at - 1]}

    def open_houses(self, steps, label):
        """Houses as told in open_cases, from the far end on; at the far end one without a label."""
        if steps == 0:
            return (None,)
        allowed = [self.full] * steps
        if label is not None:
            allowed[0] = 1 << label
        return (None,) + least_line(self.rows, allowed)

    def edge_houses(self, steps):
        """Houses as told in edge_cases, from the end of the path on."""
        if steps == 0:
            return ()
        return least_line(self.rows, [self.edges] + [self.full] * (steps - 1))


def _sides(problem):
    path = isinstance(problem, PathProblem)
    starts = bits_of(problem.starts) if path else None
    ends = bits_of(problem.ends) if path else None
    left = Side(problem.labels, problem_rows(problem), starts)
    right = Side(problem.labels, problem_columns(problem), ends)
    return left, right


def _clash(ones, others):
    # The least pair of cases that leave no label to the house, None if each pair leaves one.
    for one, held in ones.items():
        for other, left in others.items():
            if held & left == 0:
                return (one, other)
    return None


def _stuck_houses(left, right, reach):
    # The houses at both sides of one that cannot be mended within the reach, None if each one can be.
    # Both ends of a path are never within it: there are too many houses.
    clash = _clash(left.open_cases(reach), right.open_cases(reach))
    if clash is not None:
        (steps, label), (others, other) = clash
        return left.open_houses(steps, label), right.open_houses(others, other)
    clash = _clash(left.edge_cases(reach), right.open_cases(reach))
    if clash is not None:
        steps, (others, other) = clash
        return left.edge_houses(steps), right.open_houses(others, other)
    clash = _clash(left.open_cases(reach), right.edge_cases(reach))
    if clash is not None:
        (steps, label), others = clash
        return left.open_houses(steps, label), right.edge_houses(others)
    return None


def _search(problem, most):
    # The pair of the least reach up to most within which each house can be mended, and None; without such a reach
    # the pair of None and the houses at both sides of one that cannot be mended within most.
    left, right = _sides(problem)
    houses = None
    for reach in range(most + 1):
        left.go_on()
        right.go_on()
        houses = _stuck_houses(left, right, reach)
        if houses is None:
            return reach, None
    return None, houses


def mending(problem):
    """The least reach within which each house of each fair draft that is not too small can be mended, or None."""
    check_problem(problem)
    return _search(problem, _MOST_REACH)[0]


def stuck(problem, reach):
    """None if mending is at most reach, otherwise a fair draft and a place of it without a mending within reach."""
    check_problem(problem)
    if not is_within(reach, 0, _MOST_REACH):
        raise BadNumber("reach")
    houses = _search(problem, reach)[1]
    if houses is None:
        return None
    left, right = houses
    more = (None,) * max(0, 2 * reach + 2 - len(left) - len(right))
    if left[:1] == (None,):
        left = more + left
    else:
        right = more + right
    return (left + (None,) + right[::-1], len(left))
