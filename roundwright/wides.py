"""Problems in which more than two houses are looked at, and the problems on rings that they are brought to."""

from roundwright.basics import are_unlike, are_within, is_line_of, is_listed, is_within
from roundwright.errors import BadLabelling, BadProblem, TooMany
from roundwright.problems import MOST_HOUSES, MOST_LABELS, RingProblem, is_right

_LEAST_WIDTH = 2
_MOST_WIDTH = 5


class WideProblem:
    """A problem on rings: which labels so many houses, one behind the other, may bear."""

    def __init__(self, labels, width, windows):
        if not is_within(labels, 1, MOST_LABELS):
            raise BadProblem("labels")
        if not is_within(width, _LEAST_WIDTH, _MOST_WIDTH):
            raise BadProblem("width")
        if not is_listed(windows):
            raise BadProblem("windows")
        for window in windows:
            if not isinstance(window, tuple) or len(window) != width or not are_within(window, 0, labels - 1):
                raise BadProblem("windows")
        if not are_unlike(windows):
            raise BadProblem("windows")
        self.labels = labels
        self.width = width
        self.windows = tuple(sorted(windows))

    def __eq__(self, other):
        if not isinstance(other, WideProblem):
            return False
        return self.labels == other.labels and self.width == other.width and self.windows == other.windows


def check_wide(problem):
    """BadProblem(None) unless a WideProblem."""
    if not isinstance(problem, WideProblem):
        raise BadProblem(None)


def _stretches(labelling, many):
    # For each house its label and those of the next ones, so many in all, going round as often as need be.
    size = len(labelling)
    return [tuple([labelling[(place + step) % size] for step in range(many)]) for place in range(size)]


def _is_right(problem, thing):
    if not is_line_of(thing, MOST_HOUSES, 0, problem.labels - 1):
        return False
    windows = {window: True for window in problem.windows}
    return all([stretch in windows for stretch in _stretches(thing, problem.width)])


def is_right_wide(problem, thing):
    """Whether a thing is a right labelling for a wide problem."""
    check_wide(problem)
    return _is_right(problem, thing)


def _brought_to(problem):
    # The pair of the RingProblem and the names.
    ends = [window[:-1] for window in problem.windows] + [window[1:] for window in problem.windows]
    names = sorted(set(ends))
    if len(names) > MOST_LABELS:
        raise TooMany(MOST_LABELS)
    places = {name: place for place, name in enumerate(names)}
    pairs = [(places[window[:-1]], places[window[1:]]) for window in problem.windows]
    return RingProblem(max(1, len(names)), pairs), tuple(names)


def as_pairs(problem):
    """The pair of a RingProblem whose labels stand for parts of windows, and of the ascending tuple of these parts."""
    check_wide(problem)
    return _brought_to(problem)


def brought(problem, labelling):
    """The labelling of the RingProblem that a right one of the wide problem tells."""
    check_wide(problem)
    _, names = _brought_to(problem)
    if not _is_right(problem, labelling):
        raise BadLabelling("not right for the wide problem")
    places = {name: place for place, name in enumerate(names)}
    return tuple([places[stretch] for stretch in _stretches(labelling, problem.width - 1)])


def brought_back(problem, labelling):
    """The labelling of the wide problem that a right one of its RingProblem tells."""
    check_wide(problem)
    pairs, names = _brought_to(problem)
    if not is_right(pairs, labelling):
        raise BadLabelling("not right for the problem of pairs")
    return tuple([names[label][0] for label in labelling])
