"""Layers of a tree: all houses are taken, from the leaves on, phase by phase."""

from roundwright.basics import is_within
from roundwright.errors import BadNumber
from roundwright.treeproblems import check_any_tree, children_of

_MOST = 1000000


class Taking:
    """A tree of which houses are taken: for each house its layer, None if it is left, and its children left."""

    def __init__(self, tree):
        self.parents = [parent for _, parent in tree]
        self.children = children_of(tree)
        self.counts = [len(below) for below in self.children]
        self.taken = [None] * len(tree)
        self.left = list(range(len(tree)))
        self.bare = [place for place in self.left if self.counts[place] == 0]

    def take_all(self, places, layer):
        """Take some houses at once."""
        for place in places:
            self.taken[place] = layer
        for place in places:
            parent = self.parents[place]
            if parent >= 0:
                self.counts[parent] -= 1
                if self.counts[parent] == 0 and self.taken[parent] is None:
                    self.bare.append(parent)

    def rake(self, layer):
        """Take all houses that have no children left."""
        places = self.bare
        self.bare = []
        self.take_all(places, layer)

    def is_single(self, place):
        """Whether a house is left and has just one child left."""
        return self.taken[place] is None and self.counts[place] == 1

    def single_lines(self, far):
        """The houses of the lines of at least far houses with one child left."""
        found = []
        # Where fewer houses were left at the beginning of the phase no line is long enough.
        for top in self.left if len(self.left) >= far else []:
            if not self.is_single(top) or (self.parents[top] >= 0 and self.is_single(self.parents[top])):
                continue
            line = [top]
            on = self.child_left(top)
            while self.is_single(on):
                line.append(on)
                on = self.child_left(on)
            if len(line) >= far:
                found.extend(line)
        return found

    def child_left(self, place):
        """The child left of a house with one."""
        return [child for child in self.children[place] if self.taken[child] is None][0]

    def forget_taken(self):
        """Leave out of what is gone through the houses that are taken."""
        self.left = [place for place in self.left if self.taken[place] is None]


def tree_layers(tree, rakes, far):
    """As layers, of a tree."""
    taking = Taking(tree)
    phase = 0
    while taking.left:
        phase += 1
        step = 0
        while step < rakes and taking.bare:
            step += 1
            taking.rake((phase, step))
        taking.take_all(taking.single_lines(far), (phase, rakes + 1))
        taking.forget_taken()
    return tuple(taking.taken)


def layers(tree, rakes, far):
    """For each house the pair of the phase and the step in which it is taken."""
    check_any_tree(tree)
    if not is_within(rakes, 1, _MOST):
        raise BadNumber("rakes")
    if not is_within(far, 1, _MOST):
        raise BadNumber("far")
    return tree_layers(tree, rakes, far)
