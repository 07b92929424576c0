"""Trees on which a program is not right, made of long lines of houses with smaller such trees beside them.

If the program is right, houses whose label belongs to a set W (they have a core below them) stand in lines; labels
of houses far apart in a line do not know of one another, and how far apart they stand, so between any two of them
walks of each length must be there: else a line is put together in which there is none. So they belong to a set that
is free in W, and the labels of roots of cores of such houses to what is trimmed of it: the next W, which is smaller.
"""

from roundwright.basics import closure, period_of
from roundwright.cores import Core
from roundwright.freesets import free_steps, walk_rows
from roundwright.treeproblems import children_of
from roundwright.trials import Foe, Trial
from roundwright.trims import trim

# So many houses that do not know of one another bear a label before it is taken as one that can come again.
_ENOUGH = 2


class LineFoe(Foe):
    """What is known of a program: for each layer the labels that houses bear, and where they were seen to."""

    def __init__(self, problem, program, rounds):
        super().__init__(problem, program, rounds)
        self.seen = [{}]
        self.cores = [None]
        self.need = _ENOUGH

    def known_labels(self, layer):
        """The ascending list of the labels of a layer."""
        if layer == 0:
            return list(range(self.problem.labels))
        return sorted([label for label, found in self.seen[layer].items() if len(found) >= self.need])

    def forget_from(self, layer):
        """Forget what was seen from a layer on."""
        del self.seen[layer:]
        del self.cores[layer:]

    def add_block(self, trial, parent, layer):
        """Add a house whose label belongs to the set of a layer, and what must stand below it; its place."""
        core = self.cores[layer]
        top = None
        waiting = [(parent, core.root)]
        while waiting:
            above, held = waiting.pop()
            rank = layer if top is None else layer - 1
            if held == core.leaf_set and layer > 1:
                place = self.add_line(trial, above, layer - 1, self.rounds + 1)[0]
                trial.ranks[place] = rank
                trial.layers[place] = layer - 1
            else:
                place = self.add(trial, above, rank, layer - 1)
                waiting.extend([(place, below) for below in core.below[held]])
            if top is None:
                top = place
        return top

    def add_line(self, trial, parent, layer, many):
        """Add a line of houses of a layer, with blocks beside each and below the last one; the list of the houses."""
        line = []
        for _ in range(many):
            parent = self.add(trial, parent, layer, layer - 1)
            line.append(parent)
        for place in line:
            for _ in range(self.problem.arms - (place != line[-1])):
                self.add_block(trial, place, layer)
        return line

    def line_trial(self, layer):
        """A line so long that the house in its middle stands far from both ends."""
        trial = Trial()
        line = self.add_line(trial, -1, layer, 2 * self.rounds + 3)
        trial.layers[line[self.rounds + 1]] = layer
        return trial

    def core_trial(self, layer):
        """A line with a core below it, for whose root no label is left."""
        trial = Trial()
        if layer == 1:
            self.add_block(trial, -1, 1)
            return trial
        parent = -1
        for _ in range(self.rounds + 1):
            parent = self.add(trial, parent, layer - 1, layer - 2)
            for _ in range(self.problem.arms - 1):
                self.add_block(trial, parent, layer - 1)
        self.add_block(trial, parent, layer)
        return trial

    def note(self, trial):
        """Note down where labels were seen that a layer is not known to have; the least layer that has a new one."""
        found = None
        before = [self.known_labels(layer) for layer in range(len(self.seen))]
        here = {}
        for place, depth in enumerate(trial.steps_down()):
            layer = trial.layers[place]
            label = trial.labels[place]
            if depth > self.rounds and 0 < layer < len(before) and label not in before[layer]:
                here[(layer, label)] = place
        for key, place in here.items():
            layer, label = key
            self.seen[layer].setdefault(label, []).append((trial, place))
            if label in self.known_labels(layer) and (found is None or layer < found):
                found = layer
        return found

    def way_down(self, trial, place, layer):
        """The houses from a house down, as many as are heard, all of whose children are of a rank; and a child on."""
        children = children_of(trial.tree)
        waiting = [[place]]
        while True:
            way = waiting.pop()
            below = children[way[-1]]
            if below and all([trial.ranks[child] >= layer for child in below]):
                if len(way) > self.rounds:
                    return way[-1], below[0]
                waiting.extend([way + [child] for child in below])

    def joined(self, layer, upper, lower, more):
        """The trial of one house seen far above another one, with so many more houses in the line between."""
        trial = Trial()
        last, child = self.way_down(upper[0], upper[1], layer)
        places = trial.copy_part(upper[0], 0, -1, child)
        parent = places[last]
        for _ in range(more):
            parent = self.add(trial, parent, layer, layer - 1)
            for _ in range(self.problem.arms - 1):
                self.add_block(trial, parent, layer)
        top = lower[1]
        for _ in range(self.rounds):
            top = lower[0].tree[top][1]
        trial.copy_part(lower[0], top, parent, None)
        return trial

    def unlike_pair(self, layer, one, other):
        """Two houses of unlike trees in which these labels were seen, None if all share names."""
        for upper in self.seen[layer][one]:
            names = {name: True for name, _ in upper[0].tree}
            for lower in self.seen[layer][other]:
                if not any([name in names for name, _ in lower[0].tree]):
                    return upper, lower
        return None

    def missing_walk(self, layer, whole):
        """Two labels of a layer and a number of steps without a walk in a set; None if all such walks are there."""
        few = self.known_labels(layer)
        if free_steps(self.problem, whole, few) is not None:
            return None
        rows = walk_rows(self.problem, whole)
        after = closure(rows)
        steps = 2 * self.rounds + 1
        for one in few:
            for other in few:
                if not after[one] >> other & 1:
                    return one, other, steps
        return few[0], few[0], steps if steps % period_of(rows, few[0]) else steps + 1

    def set_core(self, layer):
        """Work out the set of a layer and the core for it; the set."""
        some = self.known_labels(layer - 1)
        whole = trim(self.problem, some)
        if len(self.cores) == layer:
            self.cores.append(Core(self.problem, some, whole, 1 if layer == 1 else self.rounds + 1))
            self.seen.append({})
        return whole

    def next_trial(self, most):
        """The next trial to make and the houses seen that are used up by it; None with more layers than most."""
        layer = 1
        while layer <= most:
            whole = self.set_core(layer)
            if not whole:
                return self.core_trial(layer), layer, None
            if not self.known_labels(layer):
                return self.line_trial(layer), layer, None
            missing = self.missing_walk(layer, whole)
            if missing is not None:
                pair = self.unlike_pair(layer, missing[0], missing[1])
                if pair is None:
                    self.need += 1
                    self.forget_from(1)
                    layer = 1
                    continue
                return self.joined(layer, pair[0], pair[1], missing[2] - 2 * self.rounds - 1), layer, pair
            layer += 1
        return None

    def wrong_trial(self, most):
        """A trial on which the program is not right; None with more layers than most."""
        while True:
            step = self.next_trial(most)
            if step is None:
                return None
            trial, layer, pair = step
            if self.is_wrong(trial):
                return trial
            changed = self.note(trial)
            if changed is not None:
                self.forget_from(changed + 1)
            elif pair is not None:
                # These are used up: with new ones it shows whether what was seen new comes again.
                for found in self.seen[layer].values():
                    for used in pair:
                        if used in found:
                            found.remove(used)
