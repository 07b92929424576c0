"""Problems that are alike but for the numbers of their labels, or for labels that are of no use."""

from itertools import permutations

from roundwright.basics import is_order
from roundwright.errors import BadNumber, TooMany
from roundwright.joins import check_kinds
from roundwright.parts import useful
from roundwright.problems import PathProblem, RingProblem, check_problem, problem_columns, problem_rows

_MOST_TRIED = 6


def _renamed(problem, names):
    pairs = [(names[one], names[other]) for one, other in problem.pairs]
    if isinstance(problem, RingProblem):
        return RingProblem(problem.labels, pairs)
    starts = [names[label] for label in problem.starts]
    ends = [names[label] for label in problem.ends]
    return PathProblem(problem.labels, pairs, starts, ends)


def relabelled(problem, names):
    """The problem in which each label is called by its thing in names."""
    check_problem(problem)
    if not is_order(names, problem.labels):
        raise BadNumber("names")
    return _renamed(problem, names)


def _first_looks(problem):
    # What a label keeps whatever it is called: whether it follows itself, is a start, is an end.
    path = isinstance(problem, PathProblem)
    looks = []
    for label in range(problem.labels):
        edges = (label in problem.starts, label in problem.ends) if path else (False, False)
        looks.append(((label, label) in problem.pairs, edges))
    return looks


def _finer_looks(problem, looks):
    rows = problem_rows(problem)
    columns = problem_columns(problem)
    found = []
    for label, look in enumerate(looks):
        behind = tuple(sorted([other for at, other in enumerate(looks) if rows[label] >> at & 1]))
        ahead = tuple(sorted([other for at, other in enumerate(looks) if columns[label] >> at & 1]))
        found.append((look, behind, ahead))
    return found


def _looks(problem, other):
    # Numbers for the labels of both problems; a relabelling gives each label one of the same number.
    ones = _first_looks(problem)
    twos = _first_looks(other)
    for _ in range(problem.labels + 1):
        ranks = sorted(set(ones + twos))
        ones = _finer_looks(problem, [ranks.index(look) for look in ones])
        twos = _finer_looks(other, [ranks.index(look) for look in twos])
    ranks = sorted(set(ones + twos))
    return [ranks.index(look) for look in ones], [ranks.index(look) for look in twos]


def _fits(ones, twos, names, name):
    # Whether the next label may be called name beside those that have their names: rows of both problems.
    label = len(names)
    for one, two in list(enumerate(names)) + [(label, name)]:
        if ones[label] >> one & 1 != twos[name] >> two & 1 or ones[one] >> label & 1 != twos[two] >> name & 1:
            return False
    return True


def _least_names(ones, twos, looks, names):
    # The least way to go on with names; looks are the numbers of the labels of both problems.
    label = len(names)
    if label == len(ones):
        return tuple(names)
    for name in range(len(twos)):
        if name not in names and looks[0][label] == looks[1][name] and _fits(ones, twos, names, name):
            found = _least_names(ones, twos, looks, names + [name])
            if found is not None:
                return found
    return None


def relabelling(problem, other):
    """The least tuple of names with which relabelled makes other of problem, None without one."""
    check_kinds(problem, other)
    if problem.labels != other.labels:
        return None
    looks = _looks(problem, other)
    if sorted(looks[0]) != sorted(looks[1]):
        return None
    return _least_names(problem_rows(problem), problem_rows(other), looks, [])


def unlike_labels(problem):
    """The ascending list of labels of which each other label can be made by a relabelling that changes nothing."""
    rows = problem_rows(problem)
    looks = _looks(problem, problem)[0]
    found = []
    for label, look in enumerate(looks):
        alike = False
        for one in found:
            # Both labels get a look of their own, so that one must become the other.
            marked = (looks[:one] + [-1] + looks[one + 1:], looks[:label] + [-1] + looks[label + 1:])
            alike = alike or (looks[one] == look and _least_names(rows, rows, marked, []) is not None)
        if not alike:
            found.append(label)
    return found


def _told(problem):
    if isinstance(problem, RingProblem):
        return (problem.pairs,)
    return (problem.pairs, problem.starts, problem.ends)


def least_form(problem):
    """Of all problems that are alike but for the numbers of labels the one with the least pairs, starts and ends."""
    check_problem(problem)
    if problem.labels > _MOST_TRIED:
        raise TooMany(_MOST_TRIED)
    best = problem
    for names in permutations(range(problem.labels)):
        found = _renamed(problem, names)
        if _told(found) < _told(best):
            best = found
    return _renamed(best, list(range(problem.labels)))


def useful_form(problem):
    """The pair of the problem with the useful labels alone and the tuple of these, None if there are none."""
    check_problem(problem)
    names = useful(problem)
    if names == ():
        return None
    places = {name: place for place, name in enumerate(names)}
    pairs = [(places[one], places[other]) for one, other in problem.pairs if one in places and other in places]
    if isinstance(problem, RingProblem):
        return (RingProblem(len(names), pairs), names)
    starts = [places[label] for label in problem.starts if label in places]
    ends = [places[label] for label in problem.ends if label in places]
    return (PathProblem(len(names), pairs, starts, ends), names)
