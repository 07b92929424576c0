"""Mendings: a house without a label gets one, and labels change around it, as near and as few as can be."""

from roundwright.basics import bits_of, has_line, numbers_of, tied, tied_rounds
from roundwright.drafts import check_place, is_draft, is_fair
from roundwright.errors import BadDraft, BadNumber, NotNow
from roundwright.problems import PathProblem, all_labels, check_problem, problem_columns, problem_rows


class Gap:
    """A place of a fair draft without a label, with what may stand around it.

    "No label" counts as one more value, the one behind all labels, that may stand beside everything: so what is
    told of rows and lines in basics holds for drafts, too.
    """

    def __init__(self, problem, draft, place):
        none = problem.labels
        self.labels = problem.labels
        self.path = isinstance(problem, PathProblem)
        self.full = all_labels(problem)
        every = self.full | 1 << none
        self.rows = [row | 1 << none for row in problem_rows(problem)] + [every]
        self.columns = [column | 1 << none for column in problem_columns(problem)] + [every]
        self.starts = bits_of(problem.starts) | 1 << none if self.path else every
        self.ends = bits_of(problem.ends) | 1 << none if self.path else every
        self.borne = [none if label is None else label for label in draft]
        self.place = place

    def most_reach(self):
        """The distance of the farthest house."""
        size = len(self.borne)
        return max(self.place, size - 1 - self.place) if self.path else size // 2

    def places(self, reach):
        """The places within a reach, from the one farthest ahead on, each once."""
        size = len(self.borne)
        if self.path:
            return list(range(max(0, self.place - reach), min(size - 1, self.place + reach) + 1))
        return [(self.place - reach + step) % size for step in range(min(size, 2 * reach + 1))]

    def allowed(self, places):
        """The values that each of these places may get, whatever stands beside it."""
        bare = 1 << self.labels
        return [self.full if at == self.place or self.borne[at] < self.labels else bare for at in places]

    def choices(self, places):
        """Lists of sets: what may be put at these places are the lines along one of them."""
        allowed = self.allowed(places)
        size = len(self.borne)
        if not self.path and len(places) == size:
            return tied_rounds(self.columns, allowed)
        ahead = self.starts
        behind = self.ends
        if not self.path or places[0] > 0:
            ahead = self.rows[self.borne[places[0] - 1]]
        if not self.path or places[-1] < size - 1:
            behind = self.columns[self.borne[(places[-1] + 1) % size]]
        return [tied(allowed, ahead, behind)]

    def is_mended_within(self, reach):
        """Whether there is a mending within a reach."""
        return any([has_line(self.rows, allowed) for allowed in self.choices(self.places(reach))])


def _least_reach(gap):
    # A mending within a reach is one within each greater reach, so the least one is found by halving.
    most = gap.most_reach()
    low = 0
    high = 0
    while not gap.is_mended_within(high):
        if high == most:
            return None
        low = high + 1
        high = min(most, 2 * high + 1)
    while low < high:
        middle = (low + high) // 2
        if gap.is_mended_within(middle):
            high = middle
        else:
            low = middle + 1
    return high


def _costs(rows, allowed, kept):
    # For each place and value the fewest changes there and behind it, None where the line cannot go on.
    following = [numbers_of(row) for row in rows]
    behind = []
    for held, value in list(zip(allowed, kept))[::-1]:
        costs = []
        for number, group in enumerate(following):
            best = 0
            if behind:
                best = min([behind[-1][other] for other in group if behind[-1][other] is not None], default=None)
            if not held >> number & 1 or best is None:
                costs.append(None)
            else:
                costs.append(best if number == value else best + 1)
        behind.append(costs)
    return behind[::-1]


def _cheapest(costs, held):
    # The least value of a set among those with the fewest changes.
    best = None
    for number in numbers_of(held):
        if costs[number] is not None and (best is None or costs[number] < costs[best]):
            best = number
    return best


def _cheapest_line(rows, allowed, kept):
    # The number of changes and the line with the fewest ones, the least of these; None without a line.
    costs = _costs(rows, allowed, kept)
    value = _cheapest(costs[0], allowed[0])
    if value is None:
        return None
    line = [value]
    for later in costs[1:]:
        line.append(_cheapest(later, rows[line[-1]]))
    return (costs[0][value], tuple(line))


def _put(gap, draft, reach):
    # The draft behind the mending within the least reach.
    places = gap.places(reach)
    kept = [gap.borne[at] for at in places]
    lines = [_cheapest_line(gap.rows, allowed, kept) for allowed in gap.choices(places)]
    # Each line is the least of those with its number of changes and its first value, so their least pair is wanted.
    _, line = min([line for line in lines if line is not None])
    found = list(draft)
    for at, value in zip(places, line):
        if value < gap.labels:
            found[at] = value
    return tuple(found)


def mending_at(problem, draft, place):
    """The pair of the least reach of a mending and the draft mended, None without a mending."""
    gap = Gap(problem, draft, place)
    reach = _least_reach(gap)
    return None if reach is None else (reach, _put(gap, draft, reach))


def _check_draft(problem, draft):
    check_problem(problem)
    if not is_draft(problem, draft) or not is_fair(problem, draft):
        raise BadDraft("not a fair draft for the problem")


def _check(problem, draft, place):
    _check_draft(problem, draft)
    check_place(draft, place)
    if draft[place] is not None:
        raise BadNumber("place")


def reach_at(problem, draft, place):
    """The least reach within which a house without a label can be mended, None if it cannot."""
    _check(problem, draft, place)
    return _least_reach(Gap(problem, draft, place))


def mended(problem, draft, place):
    """The draft in which the house at a place has a label: mended within the least reach, with the fewest changes."""
    _check(problem, draft, place)
    found = mending_at(problem, draft, place)
    if found is None:
        raise NotNow("there is no mending")
    return found[1]


def mended_whole(problem, draft):
    """The pair of the labelling that mending house by house leads to, and the list of the reaches."""
    _check_draft(problem, draft)
    reaches = []
    while None in draft:
        found = mending_at(problem, draft, draft.index(None))
        if found is None:
            raise NotNow("a house cannot be mended")
        reaches.append(found[0])
        draft = found[1]
    return (draft, reaches)
