"""The program made for a problem, which ends within the fewest rounds of its class."""

from roundwright.basics import bits_of, numbers_of, spread
from roundwright.closedwalks import bends_from
from roundwright.parts import useful
from roundwright.problems import MOST_HOUSES, RingProblem, check_problem, problem_columns, problem_rows
from roundwright.stages import Program


def _power(times):
    # 3 to the power of so many times.
    found = 1
    for _ in range(times):
        found = 3 * found
    return found


def _thinnings(times):
    stages = []
    for step in range(times):
        gap = _power(step)
        stages.append(("names",))
        stages.extend([("bits", gap)] * 4)
        stages.extend([("drop", sign, gap) for sign in (5, 4, 3)])
        stages.append(("stay", gap))
    return stages


def _times(bend):
    # The least number t with 2 ** t at least the bend.
    times = 0
    while 1 << times < bend:
        times += 1
    return times


def _bends(problem, labels):
    # The ascending list of the pairs of a bend and its label.
    found = [(bends_from(problem, label), label) for label in labels]
    return sorted([pair for pair in found if pair[0] is not None])


def _stages_on_rings(problem):
    loops = [one for one, other in problem.pairs if one == other]
    if loops:
        return [("all", loops[0])]
    bends = _bends(problem, list(range(problem.labels)))
    if not bends:
        return [("whole", MOST_HOUSES // 2)]
    bend, label = bends[0]
    times = _times(bend)
    gap = _power(times)
    return [("whole", 9 * (gap - 1) // 2 + gap)] + _thinnings(times) + [("fill", label, gap)]


def _steps_from(rows, labels):
    # A dict from each label to which walks lead from some of the labels to the fewest steps of these.
    found = {label: 0 for label in labels}
    edge = bits_of(labels)
    steps = 0
    while edge:
        steps += 1
        edge = bits_of([label for label in numbers_of(spread(rows, edge)) if label not in found])
        for label in numbers_of(edge):
            found[label] = steps
    return found


def _stages_on_paths(problem):
    first = _steps_from(problem_rows(problem), problem.starts)
    last = _steps_from(problem_columns(problem), problem.ends)
    labels = useful(problem)
    loops = [(max(first[label], last[label]), label) for label in labels if (label, label) in problem.pairs]
    if loops:
        far, label = min(loops)
        far = max(1, far)
        return [("whole", 2 * far), ("clear", far), ("fill", label, far)]
    bends = _bends(problem, labels)
    if not bends:
        return [("whole", MOST_HOUSES)]
    bend, label = bends[0]
    times = _times(bend)
    gap = _power(times)
    far = bend + max(first[label], last[label])
    rounds = 9 * (gap - 1) // 2 + 2 * far + gap
    return [("whole", rounds)] + _thinnings(times) + [("clear", far), ("fill", label, far + gap)]


def made(problem):
    """The program made for a problem."""
    check_problem(problem)
    ring = isinstance(problem, RingProblem)
    return Program(problem, tuple(_stages_on_rings(problem) if ring else _stages_on_paths(problem)))
