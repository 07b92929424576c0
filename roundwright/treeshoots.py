"""Shoots: which sets of labels the roots of full trees can bear for some fixed labels of the leaves.

A key is a pair of such a set (in bits) and of whether one of the leaves is of a wanted kind. A key of height 0 is of
one leaf; each other one comes of as many keys below as there are arms, each of one height less. Each leaf can go on by
a row, so what can be had at one height can be had at each greater one.
"""

from itertools import permutations

from roundwright.basics import bits_of, least_of, mates_of, numbers_of, period_of
from roundwright.freesets import greatest_free, walk_rows
from roundwright.treechains import chain_or_hub
from roundwright.trims import rows_within, trim

MOST_STAR = 400
# A star of so few leaves is taken as it is; otherwise a lower one is searched for.
_FEW_LEAVES = 5000


def order_table(rows):
    """A dict from what children may bear, told in any sequence of theirs, to the set of the labels above."""
    found = {}
    for label, below in rows:
        labels = list(below)
        for order in permutations(labels):
            found[order] = found.get(order, 0) | 1 << label
    return found


def narrowed(table, held):
    """What is left of a table if the first child bears one of a set."""
    found = {}
    for order, above in table.items():
        if held >> order[0] & 1:
            found[order[1:]] = found.get(order[1:], 0) | above
    return found


def set_above(table, sets):
    """The set of the labels above children that bear labels of these sets."""
    for held in sets:
        table = narrowed(table, held)
    return table.get((), 0)


class Shoots:
    """All keys that there are in a set of labels, height by height; kept are those that no other key surpasses."""

    def __init__(self, problem, some, wanted):
        self.arms = problem.arms
        self.rows = rows_within(problem, some)
        self.wanted = wanted
        self.table = order_table(self.rows)
        self.full = bits_of(some)
        self.height = 0
        self.below = {}
        self.best = [self.leaf(label) for label in some]
        self.fresh = {key: True for key in self.best}

    def leaf(self, label):
        """The key of a leaf with a label."""
        return (1 << label, label in self.wanted)

    def surpasses(self, one, other):
        """Whether all that a key has another one has, too."""
        return one[0] | other[0] == one[0] and (one[1] or not other[1])

    def grow(self):
        """Take the keys of one height more."""
        self.height += 1
        found = {}
        self.grow_on(self.table, [], found)
        fresh = []
        for key in found:
            if not any([self.surpasses(one, key) for one in self.best]):
                fresh.append(key)
        fresh = [key for key in fresh if not any([one != key and self.surpasses(one, key) for one in fresh])]
        for key in fresh:
            self.below[key] = found[key]
        self.best = [one for one in self.best if not any([self.surpasses(key, one) for key in fresh])] + fresh
        self.fresh = {key: True for key in fresh}

    def grow_on(self, table, chosen, found):
        """Put keys below one by one, and the keys that come of them into found; one of those below must be fresh."""
        if len(chosen) == self.arms:
            key = (table.get((), 0), any([one[1] for one in chosen]))
            if key[0] and any([one in self.fresh for one in chosen]):
                found[key] = tuple(chosen)
            return
        first = self.best.index(chosen[-1]) if chosen else 0
        for one in self.best[first:]:
            self.grow_on(narrowed(table, one[0]), chosen + [one], found)

    def reaches(self, goal, most):
        """Whether some key of a height from 1 to most surpasses the goal; its height is the present one then."""
        while self.height < most and (self.fresh or self.height == 0):
            self.grow()
            if self.top(goal) is not None:
                return True
        return False

    def top(self, goal):
        """A key that surpasses the goal, None without one."""
        for key in self.best:
            if self.surpasses(key, goal):
                return key
        return None

    def leaf_row(self, key):
        """What stands below the label of a leaf that goes on; a label of the wanted kind has itself below."""
        label = least_of(key[0])
        for one, below in self.rows:
            if one == label and (not key[1] or label in below):
                return below
        return None

    def keys_below(self, key):
        """The keys below a key of some height from 1 on."""
        if key in self.below:
            return self.below[key]
        return tuple([self.leaf(label) for label in self.leaf_row(key)])

    def leaves(self, key, height):
        """The labels of the leaves of a tree of this height below a key, from left to right."""
        keys = [key]
        for _ in range(height):
            keys = [child for one in keys for child in self.keys_below(one)]
        return tuple([least_of(held) for held, _ in keys])


def _hubs_within(problem, some):
    # The ascending lists of the labels of the hubs within a set, the smaller ones first.
    found = []
    for bits in range(1, 1 << len(some)):
        labels = [label for at, label in enumerate(some) if bits >> at & 1]
        if len(trim(problem, labels)) == len(labels):
            rows = walk_rows(problem, labels)
            if mates_of(rows)[labels[0]] == bits_of(labels) and period_of(rows, labels[0]) == 1:
                found.append((len(labels), labels))
    return [labels for _, labels in sorted(found)]


def _greatest_hubs(problem):
    # Sets such that each hub is within one of them.
    found = {}
    waiting = [trim(problem, list(range(problem.labels)))]
    while waiting:
        some = waiting.pop()
        for few in greatest_free(problem, some):
            on = trim(problem, few)
            if on == some:
                found[on] = True
            elif on:
                waiting.append(on)
    return sorted(list(found))


def _is_low(problem, shoots):
    many = 1
    for _ in range(shoots.height):
        many = many * problem.arms
        if many > _FEW_LEAVES:
            return False
    return True


def _wanted_labels(problem, labels):
    return [label for label, below in rows_within(problem, labels) if label in below]


def _can_widen(problem, labels):
    # Whether two labels can ever stand above the same leaves: if no two rows are alike below, one leads to one alone.
    belows = [below for _, below in rows_within(problem, labels)]
    return len(labels) == 1 or len(set(belows)) < len(belows)


def lowest_shoots(problem, still):
    """Shoots that reach all labels of a set from one row of leaves, of a small height; None if there are none.

    If still is True one leaf at least has a label with a row in which it stands below itself.
    """
    best = None
    most = MOST_STAR
    seen = {}
    for some in _greatest_hubs(problem) if chain_or_hub(problem)[1] is not None else []:
        for labels in _hubs_within(problem, list(some)):
            wanted = _wanted_labels(problem, labels) if still else []
            if tuple(labels) in seen or (still and not wanted) or not _can_widen(problem, labels):
                continue
            seen[tuple(labels)] = True
            shoots = Shoots(problem, labels, wanted)
            if shoots.reaches((shoots.full, still), most):
                best = shoots
                most = shoots.height - 1
                if _is_low(problem, best):
                    return best
    return best
