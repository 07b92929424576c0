"""What the tests share: problems to try, and slow ways to what the program tells, straight from the document."""

import itertools
import random

from roundwright.problems import PathProblem, RingProblem


class Odd:
    """A value of no kind that the program knows; it cannot be compared, hashed or measured."""

    __hash__ = None

    def __eq__(self, other):
        raise TypeError("not to be compared")


#: Values that are no problem, no table, no tuple of numbers ...
STRANGE = (None, True, 0, 1.0, "a", b"a", [], {}, {1}, object(), Odd(), RingProblem, (Odd(),), (None,), ([],))

COLOURS = RingProblem(3, [(0, 1), (1, 0), (0, 2), (2, 0), (1, 2), (2, 1)])
TWO_AND_THREE = RingProblem(3, [(0, 1), (1, 0), (1, 2), (2, 0)])
TWOS_OR_THREES = RingProblem(5, [(0, 1), (1, 0), (2, 3), (3, 4), (4, 2)])
CHESS = RingProblem(2, [(0, 1), (1, 0)])
CHESS_PATH = PathProblem(2, [(0, 1), (1, 0)], [0, 1], [0, 1])
LINE_12 = RingProblem(12, [(at, (at + 1) % 12) for at in range(12)])
WIELANDT_12 = RingProblem(12, [(at, (at + 1) % 12) for at in range(12)] + [(11, 1)])
WHOLE_12 = RingProblem(12, [(one, other) for one in range(12) for other in range(12)])
EMPTY_12 = RingProblem(12, [])


def all_pairs(labels):
    return list(itertools.product(range(labels), repeat=2))


def some_of(rng, things, share):
    return [thing for thing in things if rng.random() < share]


def random_ring(rng, labels):
    return RingProblem(labels, some_of(rng, all_pairs(labels), rng.choice((0.2, 0.35, 0.6))))


def random_path(rng, labels):
    pairs = some_of(rng, all_pairs(labels), rng.choice((0.2, 0.35, 0.6)))
    return PathProblem(labels, pairs, some_of(rng, range(labels), 0.5), some_of(rng, range(labels), 0.5))


def random_problem(rng, labels):
    return random_ring(rng, labels) if rng.random() < 0.5 else random_path(rng, labels)


def random_problems(seed, many, most=4):
    rng = random.Random(seed)
    return [random_problem(rng, rng.randint(1, most)) for _ in range(many)]


def random_rings(seed, many, most=4):
    rng = random.Random(seed)
    return [random_ring(rng, rng.randint(1, most)) for _ in range(many)]


def tiny_problems():
    """All ring problems of one and of two labels, and all path problems of one label."""
    found = []
    for labels in (1, 2):
        pairs = all_pairs(labels)
        for bits in range(1 << len(pairs)):
            found.append(RingProblem(labels, [pair for at, pair in enumerate(pairs) if bits >> at & 1]))
    for bits in range(8):
        pairs, starts, ends = ([(0, 0)] if bits & 1 else []), ([0] if bits & 2 else []), ([0] if bits & 4 else [])
        found.append(PathProblem(1, pairs, starts, ends))
    return found


def is_ring(problem):
    return isinstance(problem, RingProblem)


def neighbours(problem, size):
    """The pairs of places of which the second one is next behind the first one."""
    found = [(at, at + 1) for at in range(size - 1)]
    return found + [(size - 1, 0)] if is_ring(problem) else found


def slow_right(problem, labelling):
    if not all((labelling[a], labelling[b]) in problem.pairs for a, b in neighbours(problem, len(labelling))):
        return False
    return is_ring(problem) or (labelling[0] in problem.starts and labelling[-1] in problem.ends)


def slow_labellings(problem, size):
    """All right labellings of so many houses, ascending."""
    return [line for line in itertools.product(range(problem.labels), repeat=size) if slow_right(problem, line)]


def slow_fair(problem, draft):
    for one, other in neighbours(problem, len(draft)):
        if draft[one] is not None and draft[other] is not None and (draft[one], draft[other]) not in problem.pairs:
            return False
    if is_ring(problem):
        return True
    return (draft[0] is None or draft[0] in problem.starts) and (draft[-1] is None or draft[-1] in problem.ends)


def all_drafts(problem, size):
    return itertools.product(list(range(problem.labels)) + [None], repeat=size)


def fair_drafts(problem, size):
    return [draft for draft in all_drafts(problem, size) if slow_fair(problem, draft)]


def distance(problem, size, one, other):
    apart = abs(one - other)
    return min(apart, size - apart) if is_ring(problem) else apart


def slow_mendings(problem, draft, place, reach):
    """All mendings of a fair draft at a place within a reach."""
    size = len(draft)
    choices = []
    for at, label in enumerate(draft):
        if at == place:
            choices.append(range(problem.labels))
        elif label is None or distance(problem, size, at, place) > reach:
            choices.append([label])
        else:
            choices.append(range(problem.labels))
    return [line for line in itertools.product(*choices) if slow_fair(problem, line)]


def slow_reach(problem, draft, place):
    for reach in range(len(draft)):
        if slow_mendings(problem, draft, place, reach):
            return reach
    return None


def slow_mended(problem, draft, place):
    """The mended draft, told straight from the words of the document; None without a mending."""
    reach = slow_reach(problem, draft, place)
    if reach is None:
        return None
    size = len(draft)
    order = []
    for at in range(place - reach, place + reach + 1):
        if is_ring(problem):
            at %= size
        if 0 <= at < size and at not in order:
            order.append(at)

    def told(line):
        changes = sum(1 for at in range(size) if line[at] != draft[at])
        return changes, tuple(line[at] for at in order if line[at] is not None)

    return min(slow_mendings(problem, draft, place, reach), key=told)


def walks_between(pairs, labels, steps):
    """For each pair of labels whether a walk of so many steps leads from one to the other."""
    held = {(label, label) for label in range(labels)}
    for _ in range(steps):
        held = {(one, last) for one, other in held for first, last in pairs if other == first}
    return held


def raised(error, call, *parts, **told):
    """The error of this very class that a call raises; fails otherwise."""
    try:
        value = call(*parts, **told)
    except error as found:
        if type(found) is not error:
            raise AssertionError(f"{type(found).__name__} instead of {error.__name__}") from found
        return found
    raise AssertionError(f"{error.__name__} was not raised, the answer was {value!r}")
