"""Lines of houses that go through the stages of a program all at once."""

from roundwright.problems import PathProblem, all_labels, least_right_line
from roundwright.walks import least_walk

#: What a house answers if there is no right labelling.
NO_LABEL = -1


class Line:
    """The houses of a ring or a path, or of a stretch cut out of one, with their signs, marks and answers.

    At the ends of a stretch houses are told wrong things, but none of them is heard by the house in the middle within
    the rounds of the program: so there the stretch is like a path, but is never told how long its net is.
    """

    def __init__(self, problem, names, stretch):
        self.problem = problem
        self.names = names
        self.path = isinstance(problem, PathProblem)
        self.ring = not self.path and not stretch
        self.whole = not stretch
        self.signs = list(names)
        self.marks = [True] * len(names)
        self.answers = [None] * len(names)
        self.kept = {}

    def gaps(self):
        """For each house how many places behind it and ahead of it the next marked houses are, None without one."""
        size = len(self.names)
        order = list(range(size)) + list(range(size)) if self.ring else list(range(size))
        return self.gaps_along(order[::-1]), self.gaps_along(order)

    def gaps_along(self, order):
        """For each house how far back along an order of places the last marked house was."""
        found = [None] * len(self.names)
        since = None
        for place in order:
            since = None if since is None else since + 1
            found[place] = since
            if self.marks[place]:
                since = 0
        return found

    def next_places(self, reach):
        """For each house the places of the next marked houses behind and ahead within a reach, None without one."""
        size = len(self.names)
        behind, ahead = self.gaps()
        found = []
        for place in range(size):
            one, other = behind[place], ahead[place]
            found.append((
                None if one is None or one > reach else (place + one) % size,
                None if other is None or other > reach else (place - other) % size))
        return found

    def step(self, stage):
        """Go through a stage."""
        word = stage[0]
        if word == "names":
            self.signs = [name if mark else sign for name, mark, sign in zip(self.names, self.marks, self.signs)]
        elif word == "bits":
            self.halve(stage[1])
        elif word == "drop":
            self.drop(stage[1], stage[2])
        elif word == "stay":
            self.stay(stage[1])
        elif word == "clear":
            self.clear_ends(stage[1])
        elif word == "fill":
            self.fill(stage[1], stage[2])
        elif word == "all":
            self.answers = [stage[1] if answer is None else answer for answer in self.answers]
        elif self.whole:
            self.answer_whole(stage[1])

    def halve(self, reach):
        """Each marked house gets the place and the digit at which its sign is unlike that of the next one behind."""
        found = list(self.signs)
        for place, beside in enumerate(self.next_places(reach)):
            if self.marks[place]:
                sign = self.signs[place]
                unlike = 0 if beside[0] is None else sign ^ self.signs[beside[0]]
                digit = (unlike & -unlike).bit_length() - 1 if unlike else None
                found[place] = sign & 1 if digit is None else 2 * digit + (sign >> digit & 1)
        self.signs = found

    def drop(self, sign, reach):
        """Each marked house with a sign gets the least one that no next marked house bears."""
        found = list(self.signs)
        for place, beside in enumerate(self.next_places(reach)):
            if self.marks[place] and self.signs[place] == sign:
                borne = [self.signs[at] for at in beside if at is not None]
                found[place] = [number for number in range(3) if number not in borne][0]
        self.signs = found

    def stay(self, reach):
        """Of the marked houses stay those of lower signs than their next ones that stay, if it is at most 2."""
        nearby = self.next_places(reach)
        stays = [mark and sign == 0 for mark, sign in zip(self.marks, self.signs)]
        zeros = list(stays)
        for sign in (1, 2):
            before = list(stays)
            for place, beside in enumerate(nearby):
                if self.marks[place] and self.signs[place] == sign:
                    stays[place] = not any([at is not None and (before[at] or zeros[at]) for at in beside])
        self.marks = stays

    def clear_ends(self, reach):
        """On a path marks go from houses with fewer than so many houses ahead of them or behind them."""
        if self.path:
            last = len(self.names) - 1
            self.marks = [
                mark and place >= reach and last - place >= reach for place, mark in enumerate(self.marks)]

    def fill(self, label, reach):
        """Marked houses answer a label, those between them, or between them and an end, as the least walks have it."""
        behind, ahead = self.gaps()
        found = list(self.answers)
        for place, answer in enumerate(self.answers):
            if answer is None and self.marks[place]:
                found[place] = label
            elif answer is None:
                walk, step = self.walk_at(label, reach, place, behind[place], ahead[place])
                if walk is not None:
                    found[place] = walk[step]
        self.answers = found

    def walk_at(self, label, reach, place, behind, ahead):
        """The walk in which an unmarked house stands and its place there; None for the walk if there is none."""
        to_end = len(self.names) - 1 - place
        here = (label,)
        if behind is not None and behind <= reach and ahead is not None and ahead <= reach:
            return self.walk(here, here, ahead + behind), ahead
        if self.path and ahead is None and behind is not None and behind <= reach and place < reach:
            return self.walk(self.problem.starts, here, place + behind), place
        if self.path and behind is None and ahead is not None and ahead <= reach and to_end < reach:
            return self.walk(here, self.problem.ends, ahead + to_end), ahead
        return None, 0

    def walk(self, begins, ends, steps):
        """The least walk of so many steps, found once."""
        key = (begins, ends, steps)
        if key not in self.kept:
            self.kept[key] = least_walk(self.problem, begins, ends, steps)
        return self.kept[key]

    def answer_whole(self, reach):
        """If the net is small enough, houses answer as its least right labelling has it."""
        size = len(self.names)
        if size > (2 * reach if self.ring else reach) or None not in self.answers:
            return
        full = [all_labels(self.problem)] * size
        least = least_right_line(self.problem, full)
        first = self.names.index(min(self.names)) if self.ring else 0
        for step in range(size):
            place = (first + step) % size
            if self.answers[place] is None:
                self.answers[place] = NO_LABEL if least is None else least[step]

    def triple(self):
        """The triple of the signs, the marks and the answers."""
        return (tuple(self.signs), tuple(self.marks), tuple(self.answers))
