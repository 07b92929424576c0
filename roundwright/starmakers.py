"""Right labellings of trees that are made by stars: each house looks no farther than is told, however great the tree.

On the way down to each house some houses are marks, as far apart as a star is high, or up to twice as far. Whether a
house is one hangs on the names of houses far above alone, so all houses that stand as deep below a mark are marks or
are none together. Marks bear the labels of the leaves of a star of such a height below the mark ahead of them; between
them the star tells rows.
"""

from roundwright.basics import least_of
from roundwright.errors import BadProblem
from roundwright.spacing import spaced_places
from roundwright.treeproblems import by_names, check_tree, children_of
from roundwright.treeshoots import lowest_shoots


class StarMaker:
    """A tree with the shoots of a star, of which more and more houses have labels."""

    def __init__(self, shoots, tree):
        self.shoots = shoots
        self.tree = tree
        self.children = children_of(tree)
        self.gap = shoots.height
        # A house is a mark of a line by what stands at most so far from it; looking one farther shows where it ends.
        self.near = 30 * self.gap * self.gap + 1
        self.first = self.near + 2 * self.gap
        self.depths = [0] * len(tree)
        self.decided = {}
        self.orders_known = {}
        self.labels = [None] * len(tree)

    def above(self, place, steps):
        """The house so many steps above a house."""
        for _ in range(steps):
            place = self.tree[place][1]
        return place

    def line_through(self, place):
        """The houses from twice as far above a house as is looked to as far below it, by first children."""
        line = [place]
        while len(line) <= 2 * self.near and self.children[line[-1]]:
            line.append(self.children[line[-1]][0])
        up = []
        one = self.tree[place][1]
        while len(up) < 2 * self.near and one >= 0:
            up.append(one)
            one = self.tree[one][1]
        return up[::-1] + line, len(up)

    def is_below_mark(self, place):
        """Whether the house that is looked at above a house is a mark of the line down to it."""
        if place not in self.decided:
            line, start = self.line_through(place)
            marks = {at: True for at in spaced_places(tuple([self.tree[one][0] for one in line]), self.gap)}
            for at in range(start, len(line)):
                if line[at] not in self.decided:
                    self.decided[line[at]] = at - self.near in marks
        return self.decided[place]

    def next_gap(self, mark):
        """How many steps below a mark the next marks stand."""
        to_first = self.first - self.depths[mark]
        if to_first > 0:
            return self.gap if to_first >= 2 * self.gap else to_first
        gap = self.gap
        while not self.is_below_mark(self.above(mark, 2 * self.gap - gap)):
            gap += 1
        return gap

    def orders(self, key, label):
        """The keys below a key and the labels of the least row below a label of it that are among these."""
        if (key, label) not in self.orders_known:
            keys = self.shoots.keys_below(key)
            found = [
                order for order, above in self.shoots.table.items()
                if above >> label & 1 and all([one[0] >> at & 1 for one, at in zip(keys, order)])]
            self.orders_known[(key, label)] = (keys, min(found))
        return self.orders_known[(key, label)]

    def make(self):
        """Give all houses labels, parents ahead of their children."""
        goal = self.shoots.top((self.shoots.full, False))
        states = [(goal, 0)] * len(self.tree)
        self.labels[0] = least_of(self.shoots.full)
        for place, below in enumerate(self.children):
            key, left = states[place]
            if not below:
                continue
            if left == 0:
                key, left = goal, self.next_gap(place)
            keys, labels = self.orders(key, self.labels[place])
            for child, one, label in zip(by_names(self.tree, below), keys, labels):
                self.depths[child] = self.depths[place] + 1
                self.labels[child] = label
                states[child] = (one, left - 1)


def starred(problem, tree):
    """The pair of a right labelling and of a number of rounds after which each house knows its label."""
    check_tree(problem, tree)
    shoots = lowest_shoots(problem, False)
    if shoots is None:
        raise BadProblem("star")
    maker = StarMaker(shoots, tree)
    maker.make()
    return (tuple(maker.labels), 60 * maker.gap * maker.gap + 6 * maker.gap + 20)
