"""Right labellings of trees that are made layer by layer, and how many rounds each house needs for its label."""

from roundwright.basics import is_within
from roundwright.errors import BadNumber, BadProblem
from roundwright.freesets import free_steps, least_walk_in
from roundwright.spacing import spaced_places
from roundwright.treechains import chain_or_hub
from roundwright.treelayers import tree_layers
from roundwright.treeproblems import by_names, check_tree, check_tree_problem, children_of
from roundwright.trims import rows_within

_MOST_SIZE = 1000000000
#: Whether a house is a mark of a line hangs on names up to this number times gap ** 2 places away.
_MARK_REACH = 30


def _check_chain(problem):
    # The pair of a longest chain and None, or of None and a hub; BadProblem("never") if there is neither.
    chain, hub = chain_or_hub(problem)
    if chain == ():
        raise BadProblem("never")
    return chain, hub


def _far(problem, chain, hub):
    if hub is not None:
        return max(1, free_steps(problem, hub, hub))
    return max([1] + [free_steps(problem, chain[at - 1], chain[at]) for at in range(1, len(chain), 2)])


def _phases(size, far):
    # The least p with size * (2 far) ** p less than (2 far + 1) ** p.
    phases = 0
    ones = size
    others = 1
    while ones >= others:
        ones = ones * 2 * far
        others = others * (2 * far + 1)
        phases += 1
    return phases


def _are_enough(size, far, phases, rakes):
    ones = size
    others = rakes
    for _ in range(phases - 1):
        ones = ones * 2 * far
        others = others * (2 * far + rakes)
    return ones <= others


def _rakes(size, far, phases):
    # The least r with size * (2 far) ** (phases - 1) at most r * (2 far + r) ** (phases - 1).
    low = 1
    high = size
    while low < high:
        middle = (low + high) // 2
        if _are_enough(size, far, phases, middle):
            high = middle
        else:
            low = middle + 1
    return low


def _plan(problem, size, chain, hub):
    far = _far(problem, chain, hub)
    if hub is not None:
        return (_phases(size, far), 1, far)
    phases = (len(chain) + 1) // 2
    return (phases, _rakes(size, far, phases), far)


def plan(problem, size):
    """In how many phases, of how many rakes and lines how far, trees of so many houses are taken."""
    check_tree_problem(problem)
    if not is_within(size, 1, _MOST_SIZE):
        raise BadNumber("size")
    chain, hub = _check_chain(problem)
    return _plan(problem, size, chain, hub)


class Maker:
    """A tree in its layers, of which more and more houses have labels, and the rounds that they need for them.

    The rounds tell how far away a house must look: they are worked out from what it looks at, as the labels are.
    """

    def __init__(self, problem, tree):
        chain, hub = _check_chain(problem)
        self.problem = problem
        self.tree = tree
        self.phases, self.rakes, self.far = _plan(problem, len(tree), chain, hub)
        self.wholes = [hub] if hub is not None else list(chain[::2])
        self.frees = [hub] if hub is not None else list(chain[1::2])
        self.layered = tree_layers(tree, self.rakes, self.far)
        self.children = children_of(tree)
        self.labels = [None] * len(tree)
        self.needs = [0] * len(tree)
        self.rows_known = {}
        self.walks_known = {}

    def whole_set(self, phase):
        """The set of the labels of a phase."""
        return self.wholes[min(phase, len(self.wholes)) - 1]

    def free_set(self, phase):
        """The free set of a phase, to which the labels of all later phases belong."""
        return self.frees[min(phase, len(self.frees)) - 1]

    def sight(self, layer):
        """How far a house must look to know that it is of a layer."""
        phase, step = layer
        lines = self.far if step > self.rakes else 0
        return (phase - 1) * (self.rakes + self.far) + min(step, self.rakes) + lines

    def is_line(self, place):
        """Whether a house was taken in a line."""
        return self.layered[place][1] > self.rakes

    def child_on(self, place):
        """The child of a house of a line that was not taken ahead of it."""
        return [child for child in self.children[place] if self.layered[child] >= self.layered[place]][0]

    def is_top(self, place):
        """Whether a house of a line has no parent in it."""
        parent = self.tree[place][1]
        return parent < 0 or self.layered[parent] != self.layered[place]

    def row_of(self, phase, label, wanted):
        """What stands below a label in the least row of the phase's set, with a wanted label below, if it is told."""
        key = (self.whole_set(phase), label, wanted)
        if key not in self.rows_known:
            rows = rows_within(self.problem, self.whole_set(phase))
            self.rows_known[key] = [
                below for one, below in rows if one == label and (wanted is None or wanted in below)][0]
        return list(self.rows_known[key])

    def begin_alone(self, place, label):
        """Give a label to a house to which its parent gave none."""
        if self.labels[place] is None:
            self.labels[place] = label
            self.needs[place] = self.sight(self.layered[place])

    def give_below(self, place):
        """Give the children of a house, those taken ahead of it, the labels of a row of its own."""
        phase = self.layered[place][0]
        given = by_names(self.tree, self.children[place])
        need = self.needs[place]
        if not given:
            return
        if self.is_line(place):
            on = self.child_on(place)
            given = [child for child in given if child != on]
            below = self.row_of(phase, self.labels[place], self.labels[on])
            below.remove(self.labels[on])
            need = max(need, 1 + self.needs[on])
        else:
            below = self.row_of(phase, self.labels[place], None)
        for child, label in zip(given, below):
            self.labels[child] = label
            self.needs[child] = max(1 + max(1, need), self.sight(self.layered[child]))

    def line_from(self, top):
        """The houses of a line, from the top on."""
        line = [top]
        on = self.child_on(top)
        while self.layered[on] == self.layered[top]:
            line.append(on)
            on = self.child_on(on)
        return line

    def fill_line(self, top):
        """Give all houses of a line labels: to marks one of their own, to the others walks between these."""
        phase = self.layered[top][0]
        least = self.free_set(phase)[0]
        self.begin_alone(top, least)
        line = self.line_from(top)
        marks = list(spaced_places(tuple([self.tree[place][0] for place in line]), self.far))
        if len(marks) > 1 and len(line) - marks[-1] < self.far:
            # The house below the line has a label of its own, too, and must be as far away.
            marks.pop()
        for mark in marks[1:]:
            self.labels[line[mark]] = least
            self.needs[line[mark]] = self.mark_need(top)
        whole = line + [self.child_on(line[-1])]
        for mark, following in zip(marks, marks[1:] + [len(line)]):
            self.fill_between(whole[mark:following + 1])
        for place in line:
            self.give_below(place)

    def mark_need(self, top):
        """How far a house of a line must look to know whether it is a mark."""
        return _MARK_REACH * self.far * self.far + self.sight(self.layered[top])

    def fill_between(self, places):
        """Give labels to the houses of a stretch of a line between its first one and its last one."""
        steps = len(places) - 1
        first, last = places[0], places[-1]
        some = self.whole_set(self.layered[first][0])
        key = (some, self.labels[first], self.labels[last], steps)
        if key not in self.walks_known:
            self.walks_known[key] = least_walk_in(self.problem, some, self.labels[first], self.labels[last], steps)
        least = self.mark_need(first)
        for step in range(1, steps):
            self.labels[places[step]] = self.walks_known[key][step]
            self.needs[places[step]] = max(
                step + max(least, self.needs[first]), steps - step + max(least, self.needs[last]))

    def make(self):
        """Give all houses labels, those of the last layers first."""
        order = [(layer, place) for place, layer in enumerate(self.layered)]
        for layer, place in sorted(order)[::-1]:
            if not self.is_line(place):
                self.begin_alone(place, self.whole_set(layer[0])[0])
                self.give_below(place)
            elif self.is_top(place):
                self.fill_line(place)


def labelled(problem, tree):
    """The pair of a right labelling and of how many rounds each house needs for its label."""
    check_tree(problem, tree)
    maker = Maker(problem, tree)
    maker.make()
    return (tuple(maker.labels), tuple(maker.needs))
