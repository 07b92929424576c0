"""Trees on which a program is not right, made of full trees.

If the program is right, a house can be put with all that it hears into the place of another one, far above the same
leaves: so for each label that houses bear there is a right labelling above leaves of fixed labels, which is a star.
Without a star some such tree shows that the program is not right.
"""

from roundwright.treeproblems import children_of, places_around
from roundwright.trials import Foe, Trial


class FullFoe(Foe):
    """What is known of a program, if it is taken to hear no more than so many rounds: labels and who bears them."""

    def __init__(self, problem, program, rounds, heard, names):
        super().__init__(problem, program, rounds)
        self.names = names
        self.heard = heard
        self.star = 2 * heard + 1
        self.seen = {}
        self.leaf_names = {}

    def renew(self):
        """Take other names for the houses far below."""
        self.leaf_names = {}

    def fixed_name(self, spot):
        """The name of the house at a spot far below: the same one until names are renewed."""
        if spot not in self.leaf_names:
            self.leaf_names[spot] = self.new_name()
        return self.leaf_names[spot]

    def grow_down(self, trial, place, depth, spot):
        """Add full trees below a house of a depth below the top of the star; spot is its number at this depth."""
        waiting = [(place, depth, spot)]
        while waiting:
            parent, depth, spot = waiting.pop()
            if depth > 3 * self.heard + 1:
                continue
            for arm in range(self.problem.arms):
                on = spot * self.problem.arms + arm
                child = trial.add((self.fixed_name((depth + 1, on)), parent), 0, depth + 1)
                waiting.append((child, depth + 1, on))

    def first_trial(self):
        """A full tree."""
        trial = Trial()
        top = self.add(trial, -1, 0, 0)
        self.grow_down(trial, top, 0, 0)
        return trial

    def moved_trial(self, source, place):
        """A full tree at whose top stands a house of another tree with all that it hears."""
        children = children_of(source)
        near = places_around(source, children, place, self.heard)
        trial = Trial()
        spots = {place: (0, 0)}
        top = min(list(near))
        # Whoever stands above all that is heard has a parent there, too, if it has one here.
        parent = self.add(trial, -1, 0, -1) if source[top][1] >= 0 else -1
        for _ in range(self.problem.arms - 1 if parent >= 0 else 0):
            self.add(trial, parent, 0, -1)
        places = {}
        for one in sorted(list(near)):
            name, above = source[one]
            if above in spots:
                depth, spot = spots[above]
                spots[one] = (depth + 1, spot * self.problem.arms + children[above].index(one))
            depth = spots[one][0] if one in spots else -1
            places[one] = trial.add((name, places[above] if one != top else parent), 0, depth)
        for one in sorted(list(near)):
            if one in spots and spots[one][0] == self.heard:
                self.grow_down(trial, places[one], spots[one][0], spots[one][1])
            else:
                for child in children[one]:
                    if child not in near:
                        self.add(trial, places[one], 0, -1)
        return trial, places[place]

    def top_answers(self, trial):
        """Let the houses of the star answer; whether they are all right."""
        children = children_of(trial.tree)
        trial.labels = [None] * len(trial.tree)
        for place in range(len(trial.tree) - 1, -1, -1):
            if 0 <= trial.layers[place] <= self.star:
                trial.labels[place] = self.answer(trial.tree, children, place)
                if trial.layers[place] < self.star and not self.is_right_at(trial.labels, place, children[place]):
                    return False
        return True

    def note(self, trial):
        """Note down a house of the star with a label that was not seen yet; whether there is one."""
        for place, label in enumerate(trial.labels):
            if label is not None and label not in self.seen:
                self.seen[label] = (trial.tree, place)
                return True
        return False

    def wrong_trial(self):
        """A trial on which the program is not right; None if it hears farther than it is taken to hear."""
        trial = self.first_trial()
        if not self.top_answers(trial):
            return trial
        self.note(trial)
        labels = list(self.seen)
        while labels:
            self.renew()
            fresh = False
            for label in labels:
                source, place = self.seen[label]
                trial, top = self.moved_trial(source, place)
                if not self.top_answers(trial):
                    return trial
                if trial.labels[top] != label:
                    return None
                if self.note(trial):
                    fresh = True
                    break
            if not fresh:
                return None
            labels = list(self.seen)
        return None
