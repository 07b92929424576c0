"""Rectangles: sets of labels all of which may stand next behind all of others; and texts of as few lines as can be."""

from roundwright.basics import is_listed, is_number, is_pair, is_tuple_of, numbers_of
from roundwright.errors import BadNumber, TooMany
from roundwright.problems import check_problem, problem_rows
from roundwright.problemtexts import check_naming, head_lines, words_of

_MOST_TRIED = 6


def _check_few(problem):
    if problem.labels > _MOST_TRIED:
        raise TooMany(_MOST_TRIED)


def _greatest(problem):
    # The ascending list of the greatest rectangles.
    rows = problem_rows(problem)
    found = {}
    for some in range(1, 1 << problem.labels):
        behind = (1 << problem.labels) - 1
        for label in numbers_of(some):
            behind = behind & rows[label]
        ahead = [label for label, row in enumerate(rows) if row & behind == behind]
        if behind:
            found[(tuple(ahead), tuple(numbers_of(behind)))] = True
    return sorted(list(found))


def rectangles(problem):
    """The ascending list of the greatest rectangles of a problem."""
    check_problem(problem)
    _check_few(problem)
    return _greatest(problem)


def _is_side(problem, thing):
    # Whether a thing is an ascending tuple of labels of the problem, at least one.
    if not is_tuple_of(thing, 0, problem.labels - 1) or thing == ():
        return False
    return all([one < other for one, other in zip(thing[:-1], thing[1:])])


def _pairs_of(rectangle):
    return [(one, other) for one in rectangle[0] for other in rectangle[1]]


def _is_rectangle(problem, pairs, thing):
    if not is_pair(thing) or not _is_side(problem, thing[0]) or not _is_side(problem, thing[1]):
        return False
    return all([pair in pairs for pair in _pairs_of(thing)])


def is_cover(problem, thing):
    """Whether a thing is a list of rectangles of the problem in which each pair of it is."""
    check_problem(problem)
    pairs = {pair: True for pair in problem.pairs}
    if not is_listed(thing) or not all([_is_rectangle(problem, pairs, part) for part in thing]):
        return False
    covered = {pair: True for part in thing for pair in _pairs_of(part)}
    return len(covered) == len(pairs)


def _with_pair(greatest, pair):
    return [part for part in greatest if pair[0] in part[0] and pair[1] in part[1]]


def _is_open_pair(problem, chosen, thing):
    # Whether a thing is a pair of the problem that is in none of the rectangles chosen.
    if not is_pair(thing) or not is_number(thing[0]) or not is_number(thing[1]):
        return False
    return thing in problem.pairs and not _with_pair(chosen, thing)


def _is_bar(problem, greatest, number, chosen, thing):
    if not isinstance(thing, tuple) or len(thing) < 2 or not isinstance(thing[0], str):
        return False
    if not _is_open_pair(problem, chosen, thing[1]):
        return False
    if number == 0:
        return thing[0] == "end" and len(thing) == 2
    if thing[0] != "part" or len(thing) != 3 or not isinstance(thing[2], tuple):
        return False
    parts = _with_pair(greatest, thing[1])
    if len(thing[2]) != len(parts):
        return False
    for part, bar in zip(parts, thing[2]):
        if not _is_bar(problem, greatest, number - 1, chosen + [part], bar):
            return False
    return True


def is_bar(problem, number, thing):
    """Whether a thing is a bar, which shows that no cover has so few rectangles."""
    check_problem(problem)
    if not is_number(number) or number < 0:
        raise BadNumber("number")
    _check_few(problem)
    return _is_bar(problem, _greatest(problem), number, [], thing)


class Covering:
    """The greatest rectangles of a problem, and what was found out of the pairs that are still open.

    A set of pairs is kept in bits, by their places in the problem.
    """

    def __init__(self, problem):
        self.pairs = problem.pairs
        self.greatest = _greatest(problem)
        self.parts = [_with_pair(self.greatest, pair) for pair in self.pairs]
        places = {pair: place for place, pair in enumerate(self.pairs)}
        self.covered = {}
        for part in self.greatest:
            self.covered[part] = sum([1 << places[pair] for pair in _pairs_of(part)])
        self.known = {}

    def tightest(self, left):
        """The place of a pair of a set which is in the fewest greatest rectangles."""
        return min([(len(self.parts[place]), place) for place in numbers_of(left)])[1]

    def outcome(self, left, number):
        """The pair of a cover of a set of pairs by so many rectangles at most, and None; or of None and a bar."""
        if left == 0:
            return [], None
        place = self.tightest(left)
        if number == 0:
            return None, ("end", self.pairs[place])
        if (left, number) not in self.known:
            self.known[(left, number)] = self.tried(left, number, place)
        return self.known[(left, number)]

    def tried(self, left, number, place):
        """As outcome: each rectangle with the pair at a place is chosen."""
        bars = []
        for part in self.parts[place]:
            cover, bar = self.outcome(left & ~self.covered[part], number - 1)
            if cover is not None:
                return [part] + cover, None
            bars.append(bar)
        return None, ("part", self.pairs[place], tuple(bars))


def _fewest(problem):
    # A cover of as few greatest rectangles as can be, and a bar for one less.
    covering = Covering(problem)
    left = (1 << len(problem.pairs)) - 1
    number = 0
    before = None
    while True:
        cover, bar = covering.outcome(left, number)
        if cover is not None:
            return list(cover), before
        before = bar
        number += 1


def fewest_lines(problem):
    """The pair of a cover of as few greatest rectangles as can be and of a bar for one less, None if it is empty."""
    check_problem(problem)
    _check_few(problem)
    return _fewest(problem)


def _set_text(names, labels):
    # The shortest SET for some labels.
    texts = [words_of(names, labels)]
    others = [label for label in range(len(names)) if label not in labels]
    if not others:
        texts.append("all")
    else:
        texts.append("all but " + words_of(names, others))
    return min([(len(text), text) for text in texts])[1]


def short_text(problem, names):
    """A text of a problem with this naming that has as few lines as can be, each of them short."""
    check_problem(problem)
    check_naming(problem, names)
    _check_few(problem)
    lines = head_lines(problem, names)
    for ahead, behind in _fewest(problem)[0]:
        lines.append(_set_text(names, ahead) + "->" + _set_text(names, behind))
    return "\n".join(lines)
