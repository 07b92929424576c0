"""Trials of programs on trees: the trees are put together house by house, always of new names."""

from roundwright.treeproblems import ball_of, children_of


class Trial:
    """A tree that is put together, and what a program answers in it.

    Each house has a rank: the number of the sets of labels, ever smaller, to which its label belongs if the program
    is right; and a layer: the number of the set of labels which houses like it are known to bear.
    """

    def __init__(self):
        self.tree = []
        self.ranks = []
        self.layers = []
        self.labels = []

    def add(self, house, rank, layer):
        """Add a house, a pair of its name and of its parent's place; its place."""
        self.tree.append(house)
        self.ranks.append(rank)
        self.layers.append(layer)
        return len(self.tree) - 1

    def steps_down(self):
        """For each house its steps from the root."""
        found = []
        for _, parent in self.tree:
            found.append(0 if parent < 0 else found[parent] + 1)
        return found

    def copy_part(self, other, top, parent, left_out):
        """Add the part of another trial from a house on, but nothing from another house on; a dict of new places."""
        places = {}
        for place in range(top, len(other.tree)):
            name, above = other.tree[place]
            if place == top or (above in places and place != left_out):
                under = parent if place == top else places[above]
                places[place] = self.add((name, under), other.ranks[place], other.layers[place])
        return places


class Foe:
    """A problem, a program that gives labels for balls, its rounds, and the names that are used up."""

    def __init__(self, problem, program, rounds):
        self.problem = problem
        self.program = program
        self.rounds = rounds
        self.names = 0
        self.rows = {row: True for row in problem.rows}

    def new_name(self):
        """A name that no house had."""
        self.names += 1
        return self.names

    def add(self, trial, parent, rank, layer):
        """Add a house of a new name to a trial; its place."""
        return trial.add((self.new_name(), parent), rank, layer)

    def answer(self, tree, children, place):
        """What the program answers at a house."""
        program = self.program
        return program(ball_of(tree, children, place, self.rounds))

    def is_right_at(self, labels, place, below):
        """Whether the label of a house and those of its children are a row."""
        return not below or (labels[place], tuple(sorted([labels[at] for at in below]))) in self.rows

    def is_wrong(self, trial):
        """Let all houses of a trial answer; whether the labelling is not right."""
        children = children_of(trial.tree)
        trial.labels = [None] * len(trial.tree)
        for place in range(len(trial.tree) - 1, -1, -1):
            trial.labels[place] = self.answer(trial.tree, children, place)
            if not self.is_right_at(trial.labels, place, children[place]):
                return True
        return False
